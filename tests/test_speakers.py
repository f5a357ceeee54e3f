"""Points 25 to 27: shared lines, speakers who share a line, and a wire."""

import copy
import itertools
import random
import unittest

from by_words import CHECKS, LAST, MOST, levels_by_words, size_by_words, some_speech

from barewire.errors import NoSpeech, NoWord, WireError
from barewire.lines import level_at, line_of
from barewire.speakers import Wire, shared

FORM = (2, "none")


def changes_in(levels):
    """The changes of levels told one by one from moment 0 on, the level ahead of them being 1."""
    ahead = [1] + levels[:-1]
    return [(moment, levels[moment]) for moment in range(len(levels)) if levels[moment] != ahead[moment]]


class Shared(unittest.TestCase):
    def same(self, lines):
        """Moment by moment: 0 where one line has 0."""
        kept = copy.deepcopy(lines)
        told = shared(lines)
        self.assertIs(type(told), list)
        last = max([moment for line in lines for moment, level in line], default=0)
        levels = [min(level_at(line, moment) for line in lines) for moment in range(last + 2)]
        self.assertEqual(told, changes_in(levels))
        self.assertEqual(lines, kept)

    def test_told_ones(self):
        one, other = [(10, 0), (20, 1)], [(15, 0), (30, 1)]
        self.assertEqual(shared([[]]), [])
        self.assertEqual(shared([[], []]), [])
        self.assertEqual(shared([one]), one)
        self.assertEqual(shared([one, one]), one)
        self.assertEqual(shared([one, []]), one)
        self.assertEqual(shared([one, other]), [(10, 0), (30, 1)])
        self.assertEqual(shared([other, one]), [(10, 0), (30, 1)])
        # They meet: one ends where the other one begins.
        self.assertEqual(shared([one, [(20, 0), (25, 1)]]), [(10, 0), (25, 1)])
        self.assertEqual(shared([one, [(21, 0), (25, 1)]]), [(10, 0), (20, 1), (21, 0), (25, 1)])
        # One lies within the other.
        self.assertEqual(shared([one, [(12, 0), (18, 1)]]), one)
        self.assertEqual(shared([one, [(10, 0), (18, 1)]]), one)
        self.assertEqual(shared([one, [(12, 0), (20, 1)]]), one)
        # The gap of one is just the other.
        self.assertEqual(shared([[(0, 0), (5, 1), (8, 0), (9, 1)], [(5, 0), (8, 1)]]), [(0, 0), (9, 1)])

    def test_any_two_short_lines(self):
        lines = []
        for many in (0, 2, 4):
            for moments in itertools.combinations(range(7), many):
                lines.append([(moment, k % 2) for k, moment in enumerate(moments)])
        for one, other in itertools.product(lines, lines):
            self.same([one, other])

    def test_one_to_eight_lines_of_speeches(self):
        source = random.Random(95)
        for check in CHECKS:
            for many in range(1, 9):
                for rate in (1, 3, 10):
                    lines = [line_of((3, check), rate, some_speech(source, (3, check), rate, source.randint(0, 4), (0, 1, 40)))
                             for number in range(many)]
                    self.same(lines)
                    self.same([lines[0]] * many)

    def test_eight_lines_at_once(self):
        lines = [[(k, 0), (20 - k, 1)] for k in range(8)]
        self.assertEqual(shared(lines), [(0, 0), (20, 1)])
        self.assertEqual(shared([[(2 * k, 0), (2 * k + 2, 1)] for k in range(8)]), [(0, 0), (16, 1)])
        self.assertEqual(shared([[(2 * k, 0), (2 * k + 1, 1)] for k in reversed(range(8))]), [(k, k % 2) for k in range(16)])

    def test_great_moments(self):
        lines = [line_of((16, "even"), MOST, [(begin, 0)]) for begin in (LAST, LAST - MOST, 0)]
        self.assertEqual(shared(lines), [(0, 0), (18 * MOST, 1), (LAST - MOST, 0), (LAST + 18 * MOST, 1)])

    def test_the_told_list_is_the_askers_own(self):
        lines = [[(10, 0), (20, 1)]]
        told = shared(lines)
        self.assertTrue(all(type(pair) is tuple for pair in told))
        told[0] = 9
        told.append(9)
        self.assertEqual(lines, [[(10, 0), (20, 1)]])
        self.assertEqual(shared(lines), [(10, 0), (20, 1)])


class PlainWire:
    """Points 26 and 27, moment by moment and level by level, of words that are all put at first."""

    def __init__(self, form, rate, many, puts, last):
        self.queues = [[] for speaker in range(many)]
        for speaker, moment, word in puts:
            self.queues[speaker].append((moment, word))
        self.said = [{} for speaker in range(many)]
        self.tales = []
        free = 0
        for moment in range(last):
            begin = [speaker for speaker in range(many) if self.queues[speaker] and self.queues[speaker][0][0] <= moment]
            if moment >= free and begin:
                self.speak(form, rate, moment, begin)
                free = moment + size_by_words(form) * rate

    def speak(self, form, rate, moment, begin):
        speaking = list(begin)
        for k in range(size_by_words(form)):
            levels = {speaker: levels_by_words(form, self.queues[speaker][0][1])[k] for speaker in speaking}
            if 0 in levels.values():
                speaking = [speaker for speaker in speaking if levels[speaker] == 0]
            for speaker in speaking:
                for tick in range(rate):
                    self.said[speaker][moment + k * rate + tick] = levels[speaker]
        words = {self.queues[speaker].pop(0)[1] for speaker in speaking}
        assert len(words) == 1
        self.tales.append((moment, words.pop(), tuple(speaking)))

    def said_by(self, speaker):
        last = max(self.said[speaker], default=0)
        return changes_in([self.said[speaker].get(moment, 1) for moment in range(last + 2)])


def some_puts(source, form, many, count, gaps):
    """Words put one behind the other; the moments of each speaker may fall, but none lies ahead of a growing bound."""
    puts, bound = [], 0
    for number in range(count):
        bound += source.choice(gaps)
        word = source.choice((0, 1, (1 << form[0]) - 1, source.randrange(1 << form[0])))
        puts.append((source.randrange(many), bound + source.choice((0, 0, 1, source.randint(0, 30))), word))
    return puts


class Tales(unittest.TestCase):
    def state(self, wire, many):
        return [wire.tales()] + [(wire.waiting(speaker), wire.said(speaker)) for speaker in range(many)]

    def same(self, form, rate, many, puts, last, steps):
        """Steps is a list of moments gone on to, each with how many words were put ahead of it."""
        plain = PlainWire(form, rate, many, puts, last)
        wire = Wire(form, rate, many)
        told, number = [], 0
        for count, (moment, until) in enumerate(steps):
            for speaker, ready, word in puts[number:until]:
                before = self.state(wire, many)
                self.assertIsNone(wire.put(speaker, ready, word))
                # A word put waits last at its speaker, and nothing else is changed.
                before[speaker + 1][0].append(word)
                self.assertEqual(self.state(wire, many), before)
            number = max(number, until)
            fresh = wire.go_on(moment)
            self.assertIs(type(fresh), list)
            told += fresh
            self.assertEqual(wire.tales(), told)
            self.assertEqual(told, [tale for tale in plain.tales if tale[0] < moment])
            if count == len(steps) - 1 or count % 20 == 7:
                self.as_far_as_gone(wire, PlainWire(form, rate, many, puts[:number], moment), many)
                self.one_line(form, rate, many, wire)
                self.each_once(many, puts[:number], wire)
        self.assertEqual(told, plain.tales)

    def as_far_as_gone(self, wire, plain, many):
        """Waiting and said, too, are those of the tales that begin ahead of the moment gone on to."""
        self.assertEqual(wire.tales(), plain.tales)
        for speaker in range(many):
            self.assertEqual(wire.waiting(speaker), [word for moment, word in plain.queues[speaker]])
            self.assertEqual(wire.said(speaker), plain.said_by(speaker))

    def one_line(self, form, rate, many, wire):
        """The shared line of what all said is the line of the speech of all tales' words."""
        speech = [(begin, word) for begin, word, speakers in wire.tales()]
        self.assertEqual(shared([wire.said(speaker) for speaker in range(many)]), line_of(form, rate, speech))

    def each_once(self, many, puts, wire):
        """Each speaker's words are told once, in their order, or wait still."""
        for speaker in range(many):
            mine = [word for begin, word, speakers in wire.tales() if speaker in speakers]
            self.assertEqual(mine + wire.waiting(speaker), [word for owner, moment, word in puts if owner == speaker])

    def test_one_speaker(self):
        wire = Wire(FORM, 10, 1)
        self.assertEqual((wire.tales(), wire.waiting(0), wire.said(0)), ([], [], []))
        wire.put(0, 5, 1)
        wire.put(0, 6, 3)
        wire.put(0, 100, 0)
        self.assertEqual((wire.tales(), wire.waiting(0), wire.said(0)), ([], [1, 3, 0], []))
        self.assertEqual(wire.go_on(5), [])
        self.assertEqual(wire.go_on(6), [(5, 1, (0,))])
        self.assertEqual((wire.tales(), wire.waiting(0)), ([(5, 1, (0,))], [3, 0]))
        self.assertEqual(wire.said(0), [(5, 0), (15, 1), (25, 0), (35, 1)])
        self.assertEqual(wire.go_on(45), [])
        self.assertEqual(wire.go_on(LAST), [(45, 3, (0,)), (100, 0, (0,))])
        self.assertEqual(wire.said(0), line_of(FORM, 10, [(5, 1), (45, 3), (100, 0)]))

    def test_ready_at_the_same_moment(self):
        # Their levels are 0101, 0001 and 0011.
        wire = Wire(FORM, 10, 3)
        wire.put(0, 7, 1)
        wire.put(1, 7, 0)
        wire.put(2, 7, 2)
        self.assertEqual(wire.go_on(8), [(7, 0, (1,))])
        self.assertEqual([wire.waiting(speaker) for speaker in range(3)], [[1], [], [2]])
        self.assertEqual([wire.said(speaker) for speaker in range(3)], [[(7, 0), (17, 1)], [(7, 0), (37, 1)], [(7, 0), (27, 1)]])
        self.assertEqual(wire.go_on(48), [(47, 2, (2,))])
        self.assertEqual(wire.said(0), [(7, 0), (17, 1), (47, 0), (57, 1)])
        self.assertEqual(wire.go_on(LAST), [(87, 1, (0,))])
        self.assertEqual(wire.said(0), [(7, 0), (17, 1), (47, 0), (57, 1), (87, 0), (97, 1), (107, 0), (117, 1)])
        self.one_line(FORM, 10, 3, wire)

    def test_a_tick_ahead_of_and_behind_the_end_of_the_one_ahead(self):
        for ready, begin, speakers in ((46, 47, (1, 2)), (47, 47, (1, 2)), (48, 47, (1,))):
            wire = Wire(FORM, 10, 3)
            wire.put(0, 7, 3)
            wire.put(1, 47, 2)
            wire.put(2, ready, 2)
            self.assertEqual(wire.go_on(48), [(7, 3, (0,)), (47, 2, speakers)])
        for ready, begin in ((8, 47), (46, 47), (47, 47), (48, 48)):
            wire = Wire(FORM, 10, 2)
            wire.put(0, 7, 3)
            wire.put(1, ready, 0)
            self.assertEqual(wire.go_on(LAST), [(7, 3, (0,)), (begin, 0, (1,))])

    def test_the_same_word_at_several_speakers(self):
        wire = Wire((3, "even"), 5, 8)
        for speaker in (7, 2, 4):
            wire.put(speaker, 3, 5)
        wire.put(0, 3, 7)
        wire.put(4, 3, 5)
        self.assertEqual(wire.go_on(4), [(3, 5, (2, 4, 7))])
        self.assertEqual([wire.waiting(speaker) for speaker in (0, 2, 4, 7)], [[7], [], [5], []])
        self.assertEqual(wire.go_on(LAST), [(33, 5, (4,)), (63, 7, (0,))])
        self.assertEqual(wire.said(2), wire.said(7))

    def test_words_that_break_off_at_each_level(self):
        for check in CHECKS:
            form = (4, check)
            for k in range(4):
                # Unlike at bit k at first: the other one breaks off there.
                wire = Wire(form, 10, 2)
                wire.put(0, 0, 0)
                wire.put(1, 0, 1 << k)
                self.assertEqual(wire.go_on(1), [(0, 0, (0,))])
                self.assertEqual(wire.said(1), [(0, 0), (10 * (k + 1), 1)])
                self.assertEqual(wire.waiting(1), [1 << k])
        # Words whose bits are alike are the same, so none breaks off at the check: here it is unlike, too, but the
        # last bit comes ahead of it.
        wire = Wire((2, "even"), 10, 2)
        wire.put(0, 0, 1)
        wire.put(1, 0, 3)
        self.assertEqual(wire.go_on(1), [(0, 1, (0,))])
        self.assertEqual(wire.said(1), [(0, 0), (10, 1)])
        self.assertEqual(wire.said(0), [(0, 0), (10, 1), (20, 0), (30, 1)])
        # The check of the least row is 1, that of the other one 0: the other one has broken off by then.
        wire = Wire((2, "odd"), 10, 2)
        wire.put(0, 0, 0)
        wire.put(1, 0, 2)
        self.assertEqual(wire.go_on(1), [(0, 0, (0,))])
        self.assertEqual([wire.said(0), wire.said(1)], [[(0, 0), (30, 1)], [(0, 0), (20, 1)]])

    def test_any_words_of_up_to_four_speakers(self):
        for check in CHECKS:
            for many in (2, 3, 4):
                for words in itertools.product(range(4), repeat=many):
                    puts = [(speaker, 0, word) for speaker, word in enumerate(words)]
                    self.same((2, check), 2, many, puts, 60, [(60, many)])

    def test_speakers_with_several_words(self):
        puts = [(0, 0, 3), (0, 0, 1), (0, 90, 0), (0, 5, 2), (1, 0, 2), (1, 40, 2), (1, 40, 3), (2, 41, 0)]
        self.same(FORM, 5, 3, puts, 400, [(400, 8)])
        wire = Wire(FORM, 5, 3)
        for put in puts:
            wire.put(*put)
        # A word that waits behind another one is not looked at, even where it is ready.
        self.assertEqual(wire.go_on(400), [(0, 2, (1,)), (20, 3, (0,)), (40, 2, (1,)), (60, 0, (2,)), (80, 1, (0,)), (100, 0, (0,)),
                                           (120, 2, (0,)), (140, 3, (1,))])

    def test_against_moment_by_moment(self):
        source = random.Random(96)
        for count in range(150):
            form = (source.choice((2, 3, 5)), source.choice(CHECKS))
            rate, many = source.choice((1, 2, 5)), source.randint(1, 8)
            puts = some_puts(source, form, many, source.randint(1, 20), source.choice(((0,), (0, 1, 10), (0, 30))))
            last = max(moment for speaker, moment, word in puts) + len(puts) * size_by_words(form) * rate + 5
            self.same(form, rate, many, puts, last, [(last, len(puts))])
            self.same(form, rate, many, puts, last, self.small_steps(source, puts, last, source.choice((1, 7, 50))))

    def small_steps(self, source, puts, last, length):
        """Steps of some lengths, none among them; each word is put as late as may be, or a while ahead of that."""
        steps, moment, number = [(0, 0)], 0, 0
        while moment < last:
            moment = min(last, moment + source.choice((0, 1, length)))
            # Gone on no further than to the least moment of all that are not put yet.
            while number < len(puts) and moment > min(ready for speaker, ready, word in puts[number:]):
                number += 1
            number = min(len(puts), number + source.choice((0, 0, 1)))
            steps.append((moment, number))
        return steps + [(last, len(puts)), (last, len(puts))]

    def test_the_same_by_many_small_steps_by_one_great_one_and_by_steps_of_no_length(self):
        source = random.Random(97)
        for check in CHECKS:
            form, rate, many = (3, check), 4, 5
            puts = some_puts(source, form, many, 25, (0, 0, 3))
            last = 2000
            states = []
            for steps in ([last], list(range(last + 1)), [0] * 5 + [last] * 3, list(range(0, last + 1, 7)) + [last], [3, 3, 700, 700, last]):
                wire = Wire(form, rate, many)
                for put in puts:
                    wire.put(*put)
                told = [tale for moment in steps for tale in wire.go_on(moment)]
                self.assertEqual(told, wire.tales())
                states.append(self.state(wire, many))
            self.assertTrue(all(state == states[0] for state in states))
            self.assertEqual(len(states[0][0]), len({tale[0] for tale in states[0][0]}))
            self.assertEqual(states[0][1:] and [waits for waits, said in states[0][1:]], [[]] * many)

    def test_a_tale_begins_ahead_of_the_moment(self):
        wire = Wire(FORM, 10, 2)
        wire.put(0, 50, 1)
        self.assertEqual(wire.go_on(50), [])
        # Ready at the very moment gone on to, so it begins with the one that waits.
        wire.put(1, 50, 0)
        self.assertEqual(wire.go_on(50), [])
        self.assertEqual(wire.go_on(51), [(50, 0, (1,))])
        # Free from the end on: at 90 the next one begins, and who is put for 90 begins with it.
        self.assertEqual(wire.go_on(90), [])
        wire.put(1, 90, 1)
        self.assertEqual(wire.go_on(91), [(90, 1, (0, 1))])

    def test_great_moments(self):
        wire = Wire((16, "odd"), MOST, 8)
        for speaker in range(8):
            wire.put(speaker, LAST - 100 * MOST, 0xFFFF - speaker)
            wire.put(speaker, LAST, speaker)
        tales = wire.go_on(LAST)
        self.assertEqual([word for begin, word, speakers in tales], [0xFFF8, 0xFFFC, 0xFFFA, 0xFFFE, 0xFFF9, 0xFFFD])
        self.assertEqual([begin for begin, word, speakers in tales], [LAST - 100 * MOST + 19 * MOST * k for k in range(6)])
        self.assertEqual(wire.go_on(LAST), [])
        self.assertEqual(wire.waiting(0), [0xFFFF, 0])

    def test_the_line_is_never_free_while_a_word_is_ready(self):
        source = random.Random(98)
        for count in range(60):
            form, rate, many = (2, source.choice(CHECKS)), source.randint(1, 4), source.randint(1, 8)
            puts = some_puts(source, form, many, 20, (0, 2))
            wire = Wire(form, rate, many)
            for put in puts:
                wire.put(*put)
            tales = wire.go_on(LAST)
            self.assertEqual([wire.waiting(speaker) for speaker in range(many)], [[]] * many)
            left = [[(ready, word) for owner, ready, word in puts if owner == speaker] for speaker in range(many)]
            free = 0
            for begin, word, speakers in tales:
                ready = {speaker: left[speaker][0] for speaker in range(many) if left[speaker]}
                self.assertEqual(begin, max(free, min(moment for moment, word in ready.values())))
                rows = [levels_by_words(form, other) for moment, other in ready.values() if moment <= begin]
                self.assertEqual(levels_by_words(form, word), min(rows))
                for speaker in speakers:
                    self.assertEqual(left[speaker].pop(0)[1], word)
                free = begin + size_by_words(form) * rate

    def test_lists_that_were_told_and_are_changed_by_the_asker(self):
        wire = Wire(FORM, 10, 2)
        for lists in (wire.tales(), wire.waiting(0), wire.said(0), wire.go_on(0)):
            lists.append(9)
        self.assertEqual(self.state(wire, 2), [[], ([], []), ([], [])])
        wire.put(0, 5, 1)
        wire.put(1, 5, 0)
        wire.put(1, 5, 3)
        before = wire.tales(), wire.waiting(1), wire.said(1)
        fresh = wire.go_on(6)
        kept = self.state(wire, 2)
        self.assertEqual(before, ([], [0, 3], []))
        self.assertTrue(all(type(tale) is tuple and type(tale[2]) is tuple for tale in fresh))
        for lists in (fresh, wire.tales(), wire.waiting(0), wire.waiting(1), wire.said(0), wire.said(1)):
            self.assertIs(type(lists), list)
            lists[0] = 9
            lists.append(9)
        self.assertEqual(self.state(wire, 2), kept)
        self.assertEqual(wire.go_on(LAST), [(45, 1, (0,)), (85, 3, (1,))])

    def test_two_wires_by_turns(self):
        one, other = Wire(FORM, 10, 2), Wire((3, "odd"), 7, 2)
        one.put(0, 3, 1)
        self.assertEqual(other.waiting(0), [])
        other.put(0, 0, 7)
        self.assertEqual(one.go_on(100), [(3, 1, (0,))])
        other.put(1, 5, 6)
        self.assertEqual(other.go_on(100), [(0, 7, (0,)), (42, 6, (1,))])
        self.assertEqual(one.tales(), [(3, 1, (0,))])

    def test_its_methods_stand_in_the_class_itself(self):
        for name in ("put", "go_on", "tales", "waiting", "said"):
            self.assertIn(name, vars(Wire))


class Refusals(unittest.TestCase):
    def refused(self, kind, wire, deed, *things):
        many = 3
        before = [wire.tales()] + [(wire.waiting(speaker), wire.said(speaker)) for speaker in range(many)]
        with self.assertRaises(WireError) as caught:
            deed(*things)
        self.assertIs(type(caught.exception), kind)
        self.assertEqual([wire.tales()] + [(wire.waiting(speaker), wire.said(speaker)) for speaker in range(many)], before)

    def some_wire(self):
        """A wire that has told a tale, has words waiting, and has gone on to 100."""
        wire = Wire(FORM, 10, 3)
        for speaker, moment, word in ((0, 90, 1), (1, 90, 0), (1, 95, 3), (2, 200, 2)):
            wire.put(speaker, moment, word)
        wire.go_on(100)
        return wire

    def goes_on_as_ever(self, wire):
        """No refused deed has had an effect: the moment gone on to is the same, and the tales are."""
        wire.put(2, 100, 1)
        self.assertEqual(wire.go_on(LAST), [(130, 1, (0,)), (170, 3, (1,)), (210, 2, (2,)), (250, 1, (2,))])

    def test_no_word(self):
        for bits, check in itertools.product((2, 8, 16), CHECKS):
            wire = Wire((bits, check), 10, 3)
            for word in (1 << bits, (1 << bits) + 1, -1, LAST, 10 ** 5000):
                self.refused(NoWord, wire, wire.put, 0, 0, word)
            wire.put(0, 0, (1 << bits) - 1)
            wire.put(0, 0, 0)

    def test_no_word_ahead_of_all_others(self):
        wire = self.some_wire()
        for moment in (0, 99, LAST + 1):
            self.refused(NoWord, wire, wire.put, 0, moment, 4)
        for number in range(59):
            wire.put(0, 100, 0)
        self.refused(NoWord, wire, wire.put, 0, 100, 4)
        self.refused(NoWord, wire, wire.put, 0, 99, 4)
        self.refused(NoSpeech, wire, wire.put, 0, 100, 3)

    def test_a_moment_to_put_for(self):
        wire = Wire(FORM, 10, 3)
        wire.put(0, 0, 1)
        self.refused(NoSpeech, wire, wire.put, 0, -1, 1)
        wire = self.some_wire()
        for moment in (0, 50, 99, LAST + 1, 2 * LAST):
            self.refused(NoSpeech, wire, wire.put, 1, moment, 1)
        self.goes_on_as_ever(wire)
        wire = self.some_wire()
        for moment in (100, 101, LAST - 1, LAST):
            wire.put(1, moment, 1)
        self.assertEqual(wire.waiting(1), [3, 1, 1, 1, 1])

    def test_a_moment_to_go_on_to(self):
        wire = Wire(FORM, 10, 3)
        self.refused(NoSpeech, wire, wire.go_on, -1)
        self.assertEqual(wire.go_on(0), [])
        wire = self.some_wire()
        for moment in (0, 99, LAST + 1, 2 * LAST):
            self.refused(NoSpeech, wire, wire.go_on, moment)
        self.goes_on_as_ever(wire)
        wire = self.some_wire()
        self.assertEqual(wire.go_on(100), [])
        self.assertEqual(len(wire.go_on(LAST)), 3)
        self.assertEqual(wire.go_on(LAST), [])
        self.refused(NoSpeech, wire, wire.go_on, LAST - 1)
        self.refused(NoSpeech, wire, wire.go_on, LAST + 1)
        wire.put(0, LAST, 1)
        self.refused(NoSpeech, wire, wire.put, 0, LAST - 1, 1)

    def test_the_sixty_first_word_that_waits(self):
        wire = Wire(FORM, 10, 3)
        for number in range(60):
            wire.put(1, 0, number % 4)
        for moment in (0, 5, LAST):
            self.refused(NoSpeech, wire, wire.put, 1, moment, 1)
        # At the others there is room.
        wire.put(0, 7, 1)
        wire.put(2, 7, 1)
        # Behind a tale one more may wait, and just one.
        self.assertEqual(wire.go_on(1), [(0, 0, (1,))])
        wire.put(1, 1, 2)
        self.refused(NoSpeech, wire, wire.put, 1, 1, 2)
        self.assertEqual(len(wire.waiting(1)), 60)
        self.assertEqual(wire.waiting(1), [number % 4 for number in range(1, 60)] + [2])

    def test_a_word_that_broke_off_waits_still(self):
        wire = Wire(FORM, 10, 3)
        for number in range(60):
            wire.put(1, 0, 3)
        wire.put(0, 0, 0)
        self.assertEqual(wire.go_on(1), [(0, 0, (0,))])
        self.refused(NoSpeech, wire, wire.put, 1, 1, 2)


if __name__ == "__main__":
    unittest.main()
