"""Flipped levels: what is known of them, and the words nearest to a row."""

from barewire.forms import check_holds, must_fit, word_in


def unlike(one, other):
    """In how many places two rows of one length are unlike."""
    return sum(1 for mine, yours in zip(one, other) if mine != yours)


def flipped(row, places):
    """A new row that has the other level at each of the places."""
    told = list(row)
    for place in places:
        told[place] = 1 - told[place]
    return told


def choices(things, many):
    """How many sets of so many there are among the things."""
    told = 1
    for k in range(many):
        # Always a whole number: it counts the sets of k + 1 things.
        told = told * (things - k) // (k + 1)
    return told


def strangers(form, many):
    """For how many sets of so many places it is not known that a word's levels were flipped there."""
    bits, check = form
    # A flipped start or stop is always known, so all flips lie among the bits and the check.
    if check == "none":
        return choices(bits, many)
    # Just an odd number of flips makes the number of ones wrong.
    return choices(bits + 1, many) if many % 2 == 0 else 0


def nearest(form, levels):
    """In how many places the nearest words are unlike the row, and these words, rising."""
    must_fit(form, levels)
    word = word_in(form, levels)
    # Each word has the start 0 and the stop 1, so these are unlike for all words or for none.
    ends = levels[0] + 1 - levels[-1]
    if check_holds(form, levels):
        return (ends, [word])
    # One more flip mends the check: of the check level itself, or of any one bit.
    return (ends + 1, sorted([word] + [word ^ (1 << k) for k in range(form[0])]))
