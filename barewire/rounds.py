"""How an ear comes to rest, and how a listener gets in step with words that go round without rests."""

from barewire.forms import levels_of, size_of


def rest_of(form, ear):
    """The least number of beats of level 1 behind which an ear is at rest, whatever it has heard."""
    over, spot, beside = ear
    # The latest 0 that makes a start true lies spot beats behind the begin; the stop is asked for until the reach.
    return (size_of(form) - 1) * over + beside


def round_levels(form, words):
    """The levels of the words, told one behind the other."""
    return [level for word in words for level in levels_of(form, word)]


def start_from(levels, place, ahead):
    """The first place, from a place on and beyond the round's end too, at which a listener at rest begins a word."""
    while levels[place % len(levels)] == 1 or ahead == 0:
        ahead = levels[place % len(levels)]
        place += 1
    return place


def joins(form, words):
    """For each place of the round what comes of a listener who comes there."""
    levels = round_levels(form, words)
    return [join_at(levels, size_of(form), place) for place in range(len(levels))]


def join_at(levels, size, place):
    """("in", many), or ("never", ring), for a listener who comes at a place."""
    begun = []
    start = start_from(levels, place, 1)
    # The round is as long as some words, so beyond its end, too, true starts are multiples of the size.
    while start % size != 0:
        here = start % len(levels)
        if here in begun:
            return ("never", least_first(begun[begun.index(here):]))
        begun.append(here)
        last = levels[(start + size - 1) % len(levels)]
        start = start_from(levels, start + size, last)
    return ("in", start - place)


def least_first(ring):
    """The same ring, told from its least place on."""
    at = ring.index(min(ring))
    return ring[at:] + ring[:at]
