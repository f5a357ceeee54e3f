"""Speeches at a rate, their lines, and the level of a line at a moment."""

from barewire.errors import NoLine, NoSpeech
from barewire.forms import is_level, is_whole, is_word, levels_of, outcome, size_of

LAST_MOMENT = 10 ** 18


def is_pair(thing):
    """True where thing, which may be anything, is a tuple of two."""
    return isinstance(thing, tuple) and len(thing) == 2


def is_speech(form, rate, thing):
    """True where thing, which may be anything, is a speech by the form at the rate."""
    if not isinstance(thing, list):
        return False
    free = 0
    for pair in thing:
        if not is_pair(pair) or not is_whole(pair[0]) or not is_word(form, pair[1]):
            return False
        if not free <= pair[0] <= LAST_MOMENT:
            return False
        free = pair[0] + size_of(form) * rate
    return True


def is_changes(thing):
    """True where thing, which may be anything, is a list of tuples of a whole number and a level."""
    return isinstance(thing, list) and all(is_pair(pair) and is_whole(pair[0]) and is_level(pair[1]) for pair in thing)


def changes_from(begin, rate, levels):
    """The changes of a line that has these levels from a begin on, and 1 ahead of and behind them."""
    told = []
    ahead = 1
    for k, level in enumerate([*levels, 1]):
        if level != ahead:
            told.append((begin + k * rate, level))
        ahead = level
    return told


def changes_of(form, rate, speech):
    """The line of what is known to be a speech."""
    return [change for begin, word in speech for change in changes_from(begin, rate, levels_of(form, word))]


def line_of(form, rate, speech):
    """The line of a speech: its changes, rising; NoSpeech for what is none."""
    if not is_speech(form, rate, speech):
        raise NoSpeech("this is no speech by the form at the rate")
    return changes_of(form, rate, speech)


def level_at(line, moment):
    """The level that the line has at a moment."""
    # By halves: low changes are known to lie at or ahead of the moment, those from high on to lie behind it.
    low, high = 0, len(line)
    while low < high:
        middle = (low + high) // 2
        if line[middle][0] <= moment:
            low = middle + 1
        else:
            high = middle
    return line[low - 1][1] if low else 1


def word_at(form, rate, line, begin):
    """The word whose levels the line has from a begin on; NoLine where they are no word's."""
    kind, word = outcome(form, [level_at(line, begin + k * rate) for k in range(size_of(form))])
    if kind != "word":
        raise NoLine("there begins no word")
    return word


def speech_of(form, rate, line):
    """The one speech that has this line at the rate; NoLine where there is none."""
    if not is_changes(line):
        raise NoLine("this is no list of changes")
    speech = []
    end = 0
    for moment, level in line:
        # Amid a word nothing begins, and at its end the line is 1, so the next change begins the next word.
        if moment >= end:
            speech.append((moment, word_at(form, rate, line, moment)))
            end = moment + size_of(form) * rate
    # Changes that lie between the levels, are alike, or are out of order were not looked at: only the line shows them.
    if not is_speech(form, rate, speech) or changes_of(form, rate, speech) != line:
        raise NoLine("this is the line of no speech at the rate")
    return speech
