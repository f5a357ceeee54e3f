"""Ears: the beats that they ask for, and what they hear of a row, beat by beat."""

from barewire.forms import is_whole, outcome, size_of

LEAST_OVER = 3
MOST_OVER = 64
MOST_BESIDE = 3


def is_ear(thing):
    """True where thing, which may be anything, is an ear."""
    if not isinstance(thing, tuple) or len(thing) != 3 or not all(is_whole(part) for part in thing):
        return False
    over, spot, beside = thing
    if not LEAST_OVER <= over <= MOST_OVER or not 0 <= beside <= MOST_BESIDE:
        return False
    return spot > beside and spot + beside < over


def asked_of(ear, level):
    """How many beats behind a word's begin the beats lie that the ear asks for a level, rising."""
    over, spot, beside = ear
    middle = level * over + spot
    return list(range(middle - beside, middle + beside + 1))


def reach(form, ear):
    """How many beats behind a word's begin the last asked beat is."""
    return asked_of(ear, size_of(form) - 1)[-1]


def taken(ear, since, level):
    """The level that an ear takes from the levels of the beats since a word's begin."""
    ones = sum(since[k] for k in asked_of(ear, level))
    return 1 if ones > ear[2] else 0


def hear(form, ear, row):
    """All that the ear tells of a row, and the beat of a begun word that is not told yet, or None."""
    listener = Listener(form, ear)
    for level in row:
        listener.beat(level)
    return (listener.heard(), listener.begun())


class Listener:
    """An ear that hears beat by beat."""

    def __init__(self, form, ear):
        self.form = form
        self.ear = ear
        self.start_judged = asked_of(ear, 0)[-1]
        self.last_asked = reach(form, ear)
        self.passed = 0
        self.outcomes = []
        # At rest only the level ahead counts; behind a begin the levels from that beat on do.
        self.ahead = 1
        self.since = []

    def beat(self, level):
        """Hears the next beat, and tells (b, outcome) where a word is told at it, else None."""
        self.passed += 1
        if self.at_rest():
            if self.ahead == 1 and level == 0:
                self.since = [level]
            self.ahead = level
            return None
        self.since.append(level)
        latest = len(self.since) - 1
        if latest == self.start_judged and taken(self.ear, self.since, 0) == 1:
            self.leave_false_start()
        elif latest == self.last_asked:
            return self.tell_word()
        return None

    def leave_false_start(self):
        """Goes through the beats behind the false begin anew: one of them may begin a word."""
        heard_since = self.since
        self.since = []
        self.ahead = heard_since[-1]
        for k in range(1, len(heard_since)):
            if heard_since[k - 1] == 1 and heard_since[k] == 0:
                # The asked beats of a later begin are not all there yet, so it is not judged here.
                self.since = heard_since[k:]
                return

    def tell_word(self):
        """Tells the word whose last asked beat was heard just now."""
        levels = [taken(self.ear, self.since, k) for k in range(size_of(self.form))]
        word_told = (self.begun(), outcome(self.form, levels))
        self.outcomes.append(word_told)
        self.since = []
        # Not the level of the beat itself: the beats beside it may have outweighed it.
        self.ahead = levels[-1]
        return word_told

    def begun(self):
        """The beat at which a word has begun that is not told yet, or None."""
        return None if self.at_rest() else self.passed - len(self.since)

    def at_rest(self):
        """True where no word has begun that is not told yet."""
        return not self.since

    def heard(self):
        """The list of all that was told."""
        return list(self.outcomes)
