"""Several speakers on one line: their shared line, and a wire that tells whose words come through."""

from barewire.errors import NoSpeech, NoWord
from barewire.forms import is_word, levels_of, size_of
from barewire.lines import LAST_MOMENT, changes_from

MOST_WAITING = 60


def shared(lines):
    """The changes of the line that has 0 wherever one of the lines has 0."""
    turns = {}
    for line in lines:
        for moment, level in line:
            # By how many more lines have 0 from this moment on.
            turns[moment] = turns.get(moment, 0) + (1 if level == 0 else -1)
    told = []
    low, ahead = 0, 1
    for moment in sorted(turns):
        low += turns[moment]
        level = 0 if low > 0 else 1
        if level != ahead:
            told.append((moment, level))
        ahead = level
    return told


def levels_said(row, told):
    """The levels of a row that a speaker says, the row told being the least: up to where it breaks off."""
    for k, (mine, other) in enumerate(zip(row, told)):
        if mine != other:
            return row[:k]
    return row


class Wire:
    """Speakers who share a line, the words that wait at them, and the tales told."""

    def __init__(self, form, rate, many):
        self.form = form
        self.rate = rate
        # For each speaker the tuples (moment, word) that wait, and the changes of what it said.
        self.queues = [[] for speaker in range(many)]
        self.changes = [[] for speaker in range(many)]
        self.record = []
        self.free = 0
        self.gone = 0

    def put(self, speaker, moment, word):
        """Puts a word, ready from a moment on, behind those that wait at a speaker."""
        if not is_word(self.form, word):
            raise NoWord("this is no word of the form")
        self.must_come(moment)
        if len(self.queues[speaker]) >= MOST_WAITING:
            raise NoSpeech("there wait sixty words at the speaker")
        self.queues[speaker].append((moment, word))

    def must_come(self, moment):
        """Refuses, with NoSpeech, a moment ahead of the one gone on to, or above the last one."""
        if not self.gone <= moment <= LAST_MOMENT:
            raise NoSpeech("the moment is over, or too late")

    def go_on(self, moment):
        """Goes on to a moment, and tells all tales that begin ahead of it and were not told yet."""
        self.must_come(moment)
        self.gone = moment
        known = len(self.record)
        begin = self.next_begin()
        while begin is not None and begin < moment:
            self.tell_tale(begin)
            begin = self.next_begin()
        return self.record[known:]

    def next_begin(self):
        """The first moment at which the line is free and some speaker's first word ready; None without words."""
        ready = [queue[0][0] for queue in self.queues if queue]
        return max(self.free, min(ready)) if ready else None

    def tell_tale(self, begin):
        """Has all those speak whose first word is ready at a moment at which the line is free."""
        rows = {}
        for speaker, queue in enumerate(self.queues):
            if queue and queue[0][0] <= begin:
                rows[speaker] = levels_of(self.form, queue[0][1])
        # Who says 0 where others say 1 goes on, so the least row comes to the end.
        least = min(rows.values())
        tellers = [speaker for speaker in rows if rows[speaker] == least]
        self.record.append((begin, self.queues[tellers[0]][0][1], tuple(tellers)))
        for speaker in rows:
            said_levels = levels_said(rows[speaker], least)
            self.changes[speaker].extend(changes_from(begin, self.rate, said_levels))
        for speaker in tellers:
            del self.queues[speaker][0]
        self.free = begin + size_of(self.form) * self.rate

    def tales(self):
        """The list of all tales told."""
        return list(self.record)

    def waiting(self, speaker):
        """The list of the words that wait at a speaker, in order."""
        return [word for moment, word in self.queues[speaker]]

    def said(self, speaker):
        """The line of what a speaker said."""
        return list(self.changes[speaker])
