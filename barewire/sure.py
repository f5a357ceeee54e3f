"""The ticks to spare, sure rates and steps, and what goes wrong at a rate that is not sure."""

from barewire.beats import row_by
from barewire.ears import asked_of
from barewire.forms import levels_of, size_of
from barewire.lines import changes_of

MOST_TICKS = 10 ** 12


def spans(form, ear):
    """For each level how many steps behind the word's begin it must have begun, and must not have ended."""
    asked = [asked_of(ear, k) for k in range(size_of(form))]
    # The word's first beat may lie nearly a step behind its begin, so the last asked beat nearly a step later.
    return [(beats[0], beats[-1] + 1) for beats in asked]


def spare(form, ear, step, rate):
    """The ticks to spare of each level: (early, late)."""
    return [(low * step - k * rate, (k + 1) * rate - high * step) for k, (low, high) in enumerate(spans(form, ear))]


def is_sure(form, ear, step, rate):
    """True where no level has less than no ticks to spare."""
    return all(early >= 0 and late >= 0 for early, late in spare(form, ear, step, rate))


def rounded_up(ticks, many):
    """The least whole number that is not below ticks parted by many."""
    return -(-ticks // many)


def stretch(leasts, mosts):
    """The numbers from 1 to the most ticks that no bound rules out, as (least, most); None where there are none."""
    least, most = max([1, *leasts]), min([MOST_TICKS, *mosts])
    return (least, most) if least <= most else None


def sure_rates(form, ear, step):
    """The least and the most sure rate of a step, or None."""
    sides = list(enumerate(spans(form, ear)))
    leasts = [rounded_up(high * step, k + 1) for k, (low, high) in sides]
    # Level 0 begins with the word, so it is never looked at too early.
    mosts = [low * step // k for k, (low, high) in sides[1:]]
    return stretch(leasts, mosts)


def sure_steps(form, ear, rate):
    """The least and the most sure step of a rate, or None."""
    sides = list(enumerate(spans(form, ear)))
    leasts = [rounded_up(k * rate, low) for k, (low, high) in sides[1:]]
    mosts = [(k + 1) * rate // high for k, (low, high) in sides]
    return stretch(leasts, mosts)


def misheard(form, ear, step, rate):
    """A speech, a first beat and gentle strikes with which a rate is not heard right; None for a sure rate."""
    if rate < step:
        # The beats pass over the start: the first one behind the begin meets the first bit, a 1.
        return ([(step - rate, 1)], 0, [])
    for k, (early, late) in enumerate(spare(form, ear, step, rate)):
        if early < 0:
            return asked_early(form, ear, step, rate, k)
        if late < 0:
            return asked_late(form, ear, step, rate, k)
    return None


def asked_early(form, ear, step, rate, level):
    """What goes wrong where a level's first asked beat may lie ahead of the level."""
    moment = asked_of(ear, level)[0] * step
    speech = [(0, unlike_word(form, level, moment // rate))]
    return (speech, 0, outweighing(form, ear, step, rate, speech, level))


def asked_late(form, ear, step, rate, level):
    """What goes wrong where a level's last asked beat may lie behind the level."""
    # Beat 0 is a tick ahead of the word's begin, so beat 1 is as late behind it as can be.
    begin = 1
    moment = (asked_of(ear, level)[-1] + 1) * step
    last = size_of(form) - 1
    if level == last:
        # The stop and the rest behind it are both 1: only another word's start is unlike the stop.
        speech = [(begin, 0), (moment, 0)]
    else:
        # Behind the word the line has the level of its stop.
        place = min((moment - begin) // rate, last)
        speech = [(begin, unlike_word(form, level, place))]
    return (speech, 0, outweighing(form, ear, step, rate, speech, level))


def unlike_word(form, one, other):
    """A word whose levels at two places are unlike."""
    # One bit is enough: it is unlike all other bits, and one of no bit, this bit and another one sets the check right.
    words = [0] + [1 << k for k in range(form[0])]
    rows = [(levels_of(form, word), word) for word in words]
    return [word for levels, word in rows if levels[one] != levels[other]][0]


def outweighing(form, ear, step, rate, speech, level):
    """Strikes of as many asked beats of the first word's level as beside, of those that have it still."""
    b = rounded_up(speech[0][0], step)
    asked = [b + beat for beat in asked_of(ear, level)]
    row = row_by(changes_of(form, rate, speech), (0, step), asked[-1] + 1)
    right = levels_of(form, speech[0][1])[level]
    return [beat for beat in asked if row[beat] == right][:ear[2]]
