"""Beats: their moments, the rows of levels at them, and struck rows."""

from barewire.flips import flipped


def moment_of(beats, k):
    """The moment of beat k."""
    first, step = beats
    return first + k * step


def first_from(beats, moment):
    """The number of the first beat at or behind a moment."""
    first, step = beats
    # Rounded up, by rounding down what lies below 0.
    return max(0, -((first - moment) // step))


def beats_in(beats, low, high):
    """How many beats lie from the moment low on, ahead of the moment high."""
    return max(0, first_from(beats, high) - first_from(beats, low))


def row_by(line, beats, many):
    """The levels of a line at so many beats."""
    told = []
    ahead = 1
    for moment, level in line:
        # Of the beats ahead of this change, those that no earlier change has told.
        told.extend([ahead] * (min(many, first_from(beats, moment)) - len(told)))
        ahead = level
    told.extend([ahead] * (many - len(told)))
    return told


def struck(row, strikes):
    """A new row that has the other level at each struck beat; beats beyond the row change nothing."""
    return flipped(row, [beat for beat in strikes if 0 <= beat < len(row)])
