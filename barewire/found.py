"""The row of a known word, the rates and behinds found from such a row, and the ear that fits some rates."""

from barewire.beats import row_by
from barewire.ears import LEAST_OVER, MOST_OVER, is_ear
from barewire.forms import levels_of
from barewire.lines import changes_of
from barewire.sure import MOST_TICKS, is_sure, rounded_up


def row_of(form, word, step, rate, behind, many):
    """The levels at so many beats, the first of them so many ticks behind the word's begin."""
    return row_by(changes_of(form, rate, [(0, word)]), (behind, step), many)


def changed_places(levels):
    """The places at which levels are unlike the one ahead, a 0 ahead of the first one."""
    return [k for k, (ahead, level) in enumerate(zip([0, *levels], levels)) if level != ahead]


def bounds_of(form, word, row):
    """The bounds that a row sets to the behind, as tuples (place, beat); None where the row has too many changes.

    At a least bound behind is no less than place * rate - beat * step; at a most bound it is less than that.
    """
    places = changed_places(levels_of(form, word))
    beats = changed_places(row)
    if len(beats) > len(places):
        return None
    # Behind itself is from 0 to less than a step.
    leasts = [(0, 0)]
    mosts = [(0, -1)]
    # Each level has a beat, the rate being no less than the step, so no change of the word is passed over.
    for place, beat in zip(places, beats):
        leasts.append((place, beat))
        mosts.append((place, beat - 1))
    if len(beats) < len(places):
        mosts.append((places[len(beats)], len(row) - 1))
    return (leasts, mosts)


def found_rates(form, word, step, row):
    """The least and the greatest rate with which the row is the row of the word, or None."""
    bounds = bounds_of(form, word, row)
    if bounds is None:
        return None
    least, most = step, MOST_TICKS
    # There is a behind just where no least bound lies above a most one; at one and the same place none does.
    for low_place, low_beat in bounds[0]:
        for high_place, high_beat in bounds[1]:
            # So many rates are at most so many ticks.
            many, ticks = low_place - high_place, (low_beat - high_beat) * step - 1
            if many > 0:
                most = min(most, ticks // many)
            elif many < 0:
                least = max(least, rounded_up(-ticks, -many))
    return (least, most) if least <= most else None


def found_behinds(form, word, step, row, rate):
    """The least and the greatest behind with which, at the rate, the row is the row of the word, or None."""
    bounds = bounds_of(form, word, row)
    if bounds is None or rate < step:
        return None
    least = max([place * rate - beat * step for place, beat in bounds[0]])
    most = min([place * rate - beat * step - 1 for place, beat in bounds[1]])
    return (least, most) if least <= most else None


def fit(form, beside, step, least, most):
    """The ear of least over, then of least spot, for which all rates from least to most are sure; None without one."""
    for over in range(LEAST_OVER, MOST_OVER + 1):
        for spot in range(over):
            ear = (over, spot, beside)
            if is_ear(ear) and is_sure(form, ear, step, least) and is_sure(form, ear, step, most):
                return ear
    return None
