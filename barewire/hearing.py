"""What is due of a speech, gentle strikes, and whether a speech is heard right."""

from barewire.beats import first_from, row_by, struck
from barewire.ears import asked_of, hear, reach
from barewire.forms import size_of
from barewire.lines import changes_of


def due_of(rate, form, speech, beats):
    """What an ear tells of a speech that is heard right: (b, ("word", word)) for each word."""
    # The beats at which words are due hang on their begins alone, whatever the rate and the form are.
    return [(first_from(beats, begin), ("word", word)) for begin, word in speech]


def asked_beats(form, ear, due):
    """The beats that the ear asks for, a list for each level of each due word."""
    return [[b + beat for beat in asked_of(ear, k)] for b, right in due for k in range(size_of(form))]


def is_gentle(rate, form, ear, speech, beats, strikes):
    """True where each strike is an asked beat, and no level of a word has more of them than beside."""
    given = {beat: True for beat in strikes}
    gentle = {}
    for asked in asked_beats(form, ear, due_of(rate, form, speech, beats)):
        hit = {beat: True for beat in asked if beat in given}
        if len(hit) > ear[2]:
            return False
        gentle.update(hit)
    return len(gentle) == len(given)


def beats_heard(rate, form, ear, speech, beats):
    """How many beats the row has from which it is seen whether a speech is heard right; 0 where it has no words."""
    if not speech:
        return 0
    end = speech[-1][0] + size_of(form) * rate
    return first_from(beats, end) + reach(form, ear) + 2


def heard_row(rate, form, ear, speech, beats, strikes):
    """The struck row from which it is seen whether a speech is heard right."""
    many = beats_heard(rate, form, ear, speech, beats)
    return struck(row_by(changes_of(form, rate, speech), beats, many), strikes)


def is_right(rate, form, ear, speech, beats, strikes):
    """True where the ear tells of a speech, looked at by the beats and struck, just what is due."""
    heard, begun = hear(form, ear, heard_row(rate, form, ear, speech, beats, strikes))
    return heard == due_of(rate, form, speech, beats)
