"""Forms, the words of a form, their levels, and the outcome of a row of levels."""

from barewire.errors import NoLevels, NoWord

LEAST_BITS = 2
MOST_BITS = 16
CHECKS = ("none", "even", "odd")


def is_whole(thing):
    """True where thing, which may be anything, is a whole number."""
    # To Python a truth is an int too, to the document it is not.
    return isinstance(thing, int) and not isinstance(thing, bool)


def is_level(thing):
    """True where thing, which may be anything, is a level."""
    return is_whole(thing) and 0 <= thing <= 1


def is_form(thing):
    """True where thing, which may be anything, is a form."""
    if not isinstance(thing, tuple) or len(thing) != 2:
        return False
    bits, check = thing
    return is_whole(bits) and LEAST_BITS <= bits <= MOST_BITS and check in CHECKS


def size_of(form):
    """How many levels a word of the form has."""
    bits, check = form
    return bits + 2 if check == "none" else bits + 3


def is_word(form, thing):
    """True where thing, which may be anything, is a word of the form."""
    return is_whole(thing) and 0 <= thing < 1 << form[0]


def levels_of(form, word):
    """The levels of a word, from its start to its stop."""
    bits, check = form
    if not is_word(form, word):
        # The message does not show the number: Python fails to write out very great ones.
        raise NoWord("this is no word of the form")
    told = [(word >> k) & 1 for k in range(bits)]
    if check == "none":
        return [0, *told, 1]
    return [0, *told, check_level(check, told), 1]


def check_level(check, told):
    """The check level that the bits told ask for."""
    ones = sum(told)
    return ones & 1 if check == "even" else 1 - (ones & 1)


def must_fit(form, levels):
    """Refuses, with NoLevels, what is no row of as many levels as a word of the form has."""
    if not isinstance(levels, (list, tuple)) or len(levels) != size_of(form):
        raise NoLevels("this is no row as long as a word of the form")
    if not all(is_level(level) for level in levels):
        raise NoLevels("a row has no other levels than 0 and 1")


def check_holds(form, levels):
    """True where the form has no check, or the row's check level is the one that its bits ask for."""
    bits, check = form
    return check == "none" or levels[bits + 1] == check_level(check, levels[1:bits + 1])


def word_in(form, levels):
    """The word that the bits of a row tell, whatever its start, check and stop are."""
    return sum(levels[k + 1] << k for k in range(form[0]))


def outcome(form, levels):
    """What a hearer makes of a row: ("word", word), or ("broken", why)."""
    must_fit(form, levels)
    if levels[0] == 1:
        return ("broken", "start")
    if not check_holds(form, levels):
        return ("broken", "check")
    if levels[-1] == 0:
        return ("broken", "stop")
    return ("word", word_in(form, levels))
