"""Points 9 and 10, and of point 4 what it says of lines: a line is told by just one speech at a rate."""

import copy
import itertools
import random
import unittest

from by_words import CHECKS, some_speech

from barewire.errors import NoLine, NoSpeech, WireError
from barewire.forms import levels_of, size_of
from barewire.lines import level_at, line_of, speech_of

SMALL = [(bits, check) for bits in (2, 3, 5) for check in CHECKS]
LAST = 10 ** 18
MOST_RATE = 10 ** 12
VERY_GREAT = (LAST + 1, 1 << 64, 10 ** 5000)
FORM = (4, "even")
SIZE = 7


def one_by_one(form, rate, speech):
    """The levels of all moments up to some ticks behind the last end, gone through one by one."""
    last = speech[-1][0] + size_of(form) * rate if speech else 0
    told = [1] * (last + 3 * rate)
    for begin, word in speech:
        for k, level in enumerate(levels_of(form, word)):
            for moment in range(begin + k * rate, begin + (k + 1) * rate):
                told[moment] = level
    return told


def changes_in(levels):
    """The changes of levels told one by one, the level ahead of them being 1."""
    ahead = [1] + levels[:-1]
    return [(moment, levels[moment]) for moment in range(len(levels)) if levels[moment] != ahead[moment]]


class LineOf(unittest.TestCase):
    def same_as_one_by_one(self, form, rate, speech):
        self.assertTrue(line_of(form, rate, speech) == changes_in(one_by_one(form, rate, speech)))

    def test_told_lines(self):
        self.assertEqual(line_of((2, "none"), 1, []), [])
        self.assertEqual(line_of((2, "none"), 10, [(0, 0)]), [(0, 0), (30, 1)])
        self.assertEqual(line_of((2, "none"), 10, [(7, 3)]), [(7, 0), (17, 1)])
        self.assertEqual(line_of((2, "none"), 10, [(7, 1)]), [(7, 0), (17, 1), (27, 0), (37, 1)])
        self.assertEqual(line_of((2, "even"), 10, [(5, 1)]), [(5, 0), (15, 1), (25, 0), (35, 1)])
        self.assertEqual(line_of((2, "odd"), 10, [(5, 1)]), [(5, 0), (15, 1), (25, 0), (45, 1)])
        self.assertEqual(line_of((2, "none"), 1, [(0, 3), (4, 2)]), [(0, 0), (1, 1), (4, 0), (6, 1)])
        self.assertEqual(line_of((2, "none"), 1, [(0, 3), (5, 2)]), [(0, 0), (1, 1), (5, 0), (7, 1)])

    def test_no_words(self):
        for form in SMALL:
            for rate in (1, 2, 16, MOST_RATE):
                self.assertEqual(line_of(form, rate, []), [])

    def test_each_word_at_0_and_later(self):
        for form in SMALL:
            for word in range(1 << form[0]):
                for rate, begin in itertools.product((1, 2, 5), (0, 1, 4, 13)):
                    self.same_as_one_by_one(form, rate, [(begin, word)])

    def test_any_two_words_at_once_and_behind_a_rest(self):
        for form in [(bits, check) for bits in (2, 3) for check in CHECKS]:
            words = range(1 << form[0])
            for one, other, rest in itertools.product(words, words, (0, 1, 2, 3, 7)):
                self.same_as_one_by_one(form, 3, [(2, one), (2 + 3 * size_of(form) + rest, other)])

    def test_sixty_words(self):
        source = random.Random(9)
        for form in SMALL + [(16, check) for check in CHECKS]:
            for rate in (1, 3):
                for rests in ((0,), (0, 0, 1, 2, 30)):
                    self.same_as_one_by_one(form, rate, some_speech(source, form, rate, 60, rests))

    def test_the_greatest_rate(self):
        source = random.Random(10)
        for form in SMALL + [(16, check) for check in CHECKS]:
            for many in (1, 2, 60):
                small = some_speech(source, form, 1, many, (0, 1, 5))
                great = [(begin * MOST_RATE, word) for begin, word in small]
                spread = [(moment * MOST_RATE, level) for moment, level in line_of(form, 1, small)]
                self.assertTrue(line_of(form, MOST_RATE, great) == spread)

    def test_the_last_moment_is_allowed(self):
        for form in SMALL:
            for rate in (1, MOST_RATE):
                told = line_of(form, rate, [(LAST, 1)])
                near = line_of(form, rate, [(0, 1)])
                self.assertEqual(told, [(moment + LAST, level) for moment, level in near])
        self.assertEqual(len(line_of(FORM, 1, [(LAST - SIZE, 1), (LAST, 1)])), 2 * len(line_of(FORM, 1, [(0, 1)])))

    def test_changes_rise_and_take_turns(self):
        source = random.Random(11)
        for form in SMALL:
            told = line_of(form, 4, some_speech(source, form, 4, 30, (0, 1, 9)))
            self.assertEqual([level for moment, level in told], [0, 1] * (len(told) // 2))
            self.assertTrue(all(one[0] < other[0] for one, other in zip(told, told[1:])))

    def test_the_told_list_is_the_askers_own(self):
        speech = [(3, 5), (80, 6)]
        told = line_of(FORM, 4, speech)
        kept = list(told)
        self.assertIs(type(told), list)
        self.assertTrue(all(type(change) is tuple and len(change) == 2 for change in told))
        told[0] = (9, 9)
        told.append((10 ** 9, 0))
        self.assertEqual(line_of(FORM, 4, speech), kept)
        line_of(FORM, 4, []).append((1, 0))
        self.assertEqual(line_of(FORM, 4, []), [])

    def test_the_speech_stays_as_it_was(self):
        for speech in ([], [(3, 5), (80, 6)], [(0, 15), (28, 0)]):
            kept = copy.deepcopy(speech)
            line_of(FORM, 4, speech)
            self.assertEqual(speech, kept)


class NoSpeeches(unittest.TestCase):
    def is_refused(self, form, rate, speech):
        kept = copy.deepcopy(speech)
        with self.assertRaises(WireError) as caught:
            line_of(form, rate, speech)
        self.assertIs(type(caught.exception), NoSpeech)
        self.assertEqual(speech, kept)

    def test_begins_below_0_and_behind_the_last_moment(self):
        for form in SMALL:
            for rate in (1, 16, MOST_RATE):
                for begin in (-1, -2, -LAST, *VERY_GREAT, *[-great for great in VERY_GREAT]):
                    self.is_refused(form, rate, [(begin, 0)])

    def test_a_begin_behind_the_last_moment_at_each_place(self):
        for at in range(4):
            speech = [(SIZE * k, 1) for k in range(at)] + [(LAST + 1, 1)]
            self.is_refused(FORM, 1, speech)
            speech[-1] = (LAST, 1)
            line_of(FORM, 1, speech)
        self.is_refused(FORM, 1, [(LAST - SIZE + 1, 1), (LAST + 1, 1)])
        self.is_refused(FORM, 1, [(LAST + 1, 1), (LAST + 1 + SIZE, 1)])

    def test_a_begin_ahead_of_the_end_of_the_word_ahead(self):
        for form in SMALL:
            for rate in (1, 16, MOST_RATE):
                end = size_of(form) * rate
                whole = [(k * end + k, 1) for k in range(5)]
                line_of(form, rate, whole)
                for at in range(1, 5):
                    free = whole[at - 1][0] + end
                    for begin in (free - 1, free - rate, whole[at - 1][0], whole[at - 1][0] - 1, 0, -1):
                        self.is_refused(form, rate, whole[:at] + [(begin, 1)] + whole[at + 1:])

    def test_each_begin_around_the_end(self):
        rate, end = 3, 3 * SIZE
        for begin in range(-5, end):
            self.is_refused(FORM, rate, [(0, 1), (begin, 1)])
        for begin in range(end, end + 10):
            self.assertEqual(len(line_of(FORM, rate, [(0, 1), (begin, 1)])), 8)

    def test_exchanged_words(self):
        self.is_refused(FORM, 1, [(SIZE, 1), (0, 1)])
        self.is_refused(FORM, 1, [(0, 1), (40, 1), (20, 1)])
        self.is_refused(FORM, 1, [(5, 1), (5, 1)])

    def test_an_end_hangs_on_the_form_and_on_the_rate(self):
        speech = [(0, 1), (60, 1)]
        line_of((4, "none"), 10, speech)
        self.is_refused((4, "none"), 11, speech)
        self.is_refused((4, "even"), 10, speech)
        self.is_refused((4, "odd"), 10, speech)
        self.is_refused((5, "none"), 10, speech)

    def test_what_is_no_word_at_each_place(self):
        for form in SMALL + [(16, check) for check in CHECKS]:
            above = 1 << form[0]
            for number in (-1, -above, above, above + 1, *VERY_GREAT, *[-great for great in VERY_GREAT]):
                for at in range(3):
                    speech = [(size_of(form) * k, above - 1) for k in range(3)]
                    line_of(form, 1, speech)
                    speech[at] = (speech[at][0], number)
                    self.is_refused(form, 1, speech)

    def test_the_last_of_sixty_words(self):
        speech = [(SIZE * k, 15) for k in range(60)]
        line_of(FORM, 1, speech)
        self.is_refused(FORM, 1, speech[:-1] + [(SIZE * 59, 16)])
        self.is_refused(FORM, 1, speech[:-1] + [(SIZE * 59 - 1, 15)])

    def test_other_things_are_refused_too(self):
        for thing in (None, True, 0, "", "0=1", (), ((0, 1),), [None], [0], [[0, 1]], [(0,)], [()], [(0, 1, 2)], [(0, True)],
                      [(True, 1)], [(None, 1)], [("0", 1)], [(0, "1")], [(0, (1,))], [((0, 1), 1)], [(0, 1), None]):
            self.is_refused(FORM, 1, thing)


class LevelAt(unittest.TestCase):
    def test_at_and_around_each_change(self):
        line = [(10, 0), (20, 1), (21, 0), (50, 1)]
        told = [level_at(line, moment) for moment in (0, 9, 10, 11, 19, 20, 21, 22, 49, 50, 51, 1000, LAST, LAST + MOST_RATE)]
        self.assertEqual(told, [1, 1, 0, 0, 0, 1, 0, 0, 0, 1, 1, 1, 1, 1])

    def test_a_line_without_changes(self):
        for moment in (0, 1, 17, LAST):
            self.assertEqual(level_at([], moment), 1)

    def test_a_line_that_begins_at_0(self):
        self.assertEqual([level_at([(0, 0), (2, 1)], moment) for moment in range(4)], [0, 0, 1, 1])

    def test_every_moment(self):
        source = random.Random(12)
        for form in SMALL:
            for rate, many in itertools.product((1, 2, 5), (0, 1, 2, 7)):
                speech = some_speech(source, form, rate, many, (0, 1, 6))
                line = line_of(form, rate, speech)
                levels = one_by_one(form, rate, speech)
                self.assertEqual([level_at(line, moment) for moment in range(len(levels))], levels)

    def test_great_rates_at_each_level(self):
        source = random.Random(13)
        for form in SMALL + [(16, check) for check in CHECKS]:
            speech = some_speech(source, form, MOST_RATE, 20, (1, 2, MOST_RATE))
            line = line_of(form, MOST_RATE, speech)
            for begin, word in speech:
                for k, level in enumerate(levels_of(form, word)):
                    low = begin + k * MOST_RATE
                    for moment in (low, low + 1, low + MOST_RATE - 1):
                        self.assertEqual(level_at(line, moment), level)
                self.assertEqual(level_at(line, begin - 1), 1)
                self.assertEqual(level_at(line, begin + size_of(form) * MOST_RATE - 1), 1)
            self.assertEqual(level_at(line, speech[-1][0] + size_of(form) * MOST_RATE), 1)
            self.assertEqual(level_at(line, LAST), 1)

    def test_the_line_stays_as_it_was(self):
        line = [(10, 0), (20, 1)]
        level_at(line, 15)
        self.assertEqual(line, [(10, 0), (20, 1)])


class SpeechOf(unittest.TestCase):
    def same(self, form, rate, speech):
        line = line_of(form, rate, speech)
        kept = list(line)
        self.assertTrue(speech_of(form, rate, line) == speech)
        self.assertTrue(line == kept)

    def test_no_words(self):
        for form in SMALL:
            for rate in (1, MOST_RATE):
                self.assertEqual(speech_of(form, rate, []), [])

    def test_told_speeches(self):
        self.assertEqual(speech_of((2, "none"), 10, [(0, 0), (30, 1)]), [(0, 0)])
        self.assertEqual(speech_of((2, "none"), 1, [(0, 0), (1, 1), (4, 0), (6, 1)]), [(0, 3), (4, 2)])
        self.assertEqual(speech_of((2, "none"), 1, [(0, 0), (1, 1), (5, 0), (7, 1)]), [(0, 3), (5, 2)])

    def test_any_two_words(self):
        for form in [(bits, check) for bits in (2, 3) for check in CHECKS]:
            words = range(1 << form[0])
            for one, other, rest in itertools.product(words, words, (0, 1, 2, 3, 50)):
                self.same(form, 3, [(4, one), (4 + 3 * size_of(form) + rest, other)])

    def test_many_words(self):
        source = random.Random(14)
        for form in SMALL + [(16, check) for check in CHECKS]:
            for rate, rests in itertools.product((1, 2, 16, MOST_RATE), ((0,), (1,), (0, 1, 2, 99))):
                for many in (1, 2, 60):
                    self.same(form, rate, some_speech(source, form, rate, many, rests))

    def test_a_word_at_the_last_moment(self):
        for form in SMALL:
            for rate in (1, MOST_RATE):
                for word in range(1 << form[0]):
                    self.same(form, rate, [(LAST, word)])
                    line = [(moment + 1, level) for moment, level in line_of(form, rate, [(LAST, word)])]
                    with self.assertRaises(NoLine):
                        speech_of(form, rate, line)

    def test_the_told_list_is_the_askers_own(self):
        line = line_of(FORM, 4, [(3, 5), (80, 6)])
        told = speech_of(FORM, 4, line)
        self.assertIs(type(told), list)
        self.assertTrue(all(type(pair) is tuple for pair in told))
        told[0] = (9, 9)
        told.append((10 ** 9, 0))
        self.assertEqual(speech_of(FORM, 4, line), [(3, 5), (80, 6)])
        speech_of(FORM, 4, []).append((1, 0))
        self.assertEqual(speech_of(FORM, 4, []), [])


def all_lines(form, rate, last):
    """Each line whose changes all lie ahead of the moment last, with its speech."""
    told = {}
    open_ones = [[]]
    while open_ones:
        speech = open_ones.pop()
        line = tuple(line_of(form, rate, speech))
        if line and line[-1][0] >= last:
            continue
        assert line not in told, "two speeches have one line"
        told[line] = speech
        free = speech[-1][0] + size_of(form) * rate if speech else 0
        for begin in range(free, last):
            open_ones.extend(speech + [(begin, word)] for word in range(1 << form[0]))
    return told


class NoLines(unittest.TestCase):
    def is_refused(self, form, rate, line):
        kept = copy.deepcopy(line)
        with self.assertRaises(WireError) as caught:
            speech_of(form, rate, line)
        self.assertIs(type(caught.exception), NoLine)
        self.assertTrue(line == kept)

    def asked(self, form, rate, line, lines):
        """The speech where lines tell one, else the refusal."""
        if tuple(line) in lines:
            self.assertEqual(speech_of(form, rate, line), lines[tuple(line)])
        else:
            self.is_refused(form, rate, line)

    def test_every_list_of_changes_that_take_turns(self):
        # Of each set of moments: whether it is the line of a speech is known from all speeches.
        for check, rate, last in (("none", 1, 11), ("even", 1, 12), ("odd", 1, 12), ("none", 2, 13), ("odd", 2, 13)):
            form = (2, check)
            lines = all_lines(form, rate, last)
            found = 0
            for many in range(0, last + 1):
                for moments in itertools.combinations(range(last), many):
                    line = [(moment, k % 2) for k, moment in enumerate(moments)]
                    self.asked(form, rate, line, lines)
                    found += tuple(line) in lines
            self.assertEqual(found, len(lines))

    def test_every_short_list_of_changes(self):
        form = (2, "none")
        lines = all_lines(form, 1, 7)
        changes = list(itertools.product(range(7), (0, 1)))
        for many in range(4):
            for line in itertools.product(changes, repeat=many):
                self.asked(form, 1, list(line), lines)

    def spoilt(self, line, rate):
        """The line with one change moved, put to the other level, left out, told twice or exchanged."""
        for k, (moment, level) in enumerate(line):
            for by in (1, -1, rate, -rate):
                yield line[:k] + [(moment + by, level)] + line[k + 1:]
            yield line[:k] + [(moment, 1 - level)] + line[k + 1:]
            yield line[:k] + line[k + 1:]
            yield line[:k + 1] + line[k:]
            yield line[:k] + [(moment, 1 - level)] + line[k:]
            for other in range(k):
                told = list(line)
                told[k], told[other] = told[other], told[k]
                yield told

    def test_a_line_with_one_change_spoilt(self):
        for check, rate in itertools.product(CHECKS, (1, 2)):
            form = (2, check)
            last = 2 * rate * size_of(form) + 3
            lines = all_lines(form, rate, last)
            for line in list(lines)[::3]:
                for other in self.spoilt(list(line), rate):
                    # Of lines that go on behind the last moment it is not known here what they are.
                    if all(moment < last for moment, level in other):
                        self.asked(form, rate, other, lines)

    def test_a_great_line_with_one_change_spoilt(self):
        # Drawn out to the greatest rate, a line is the line of the speech drawn out, or of none as before.
        by = MOST_RATE // 2
        form = (2, "odd")
        lines = all_lines(form, 2, 2 * 2 * size_of(form) + 3)
        for line in list(lines)[::5]:
            for other in self.spoilt(list(line), 2):
                if any(moment >= 2 * 2 * size_of(form) + 3 for moment, level in other):
                    continue
                great = [(moment * by, level) for moment, level in other]
                if tuple(other) in lines:
                    told = [(begin * by, word) for begin, word in lines[tuple(other)]]
                    self.assertEqual(speech_of(form, MOST_RATE, great), told)
                else:
                    self.is_refused(form, MOST_RATE, great)

    def test_a_moment_moved_by_a_tick(self):
        for rate in (10, MOST_RATE):
            line = line_of(FORM, rate, [(50, 5), (50 * rate, 10)])
            for k, (moment, level) in enumerate(line):
                for by in (1, -1):
                    self.is_refused(FORM, rate, line[:k] + [(moment + by, level)] + line[k + 1:])

    def test_all_moments_moved_by_a_tick(self):
        line = line_of(FORM, 10, [(50, 5), (500, 10)])
        for by in (-50, -1, 1, 10, 12345):
            told = speech_of(FORM, 10, [(moment + by, level) for moment, level in line])
            self.assertEqual(told, [(50 + by, 5), (500 + by, 10)])
        self.is_refused(FORM, 10, [(moment - 51, level) for moment, level in line])

    def test_another_rate(self):
        line = line_of(FORM, 10, [(50, 5)])
        for rate in (1, 2, 3, 9, 11, 20, 30, 100, MOST_RATE):
            self.is_refused(FORM, rate, line)
        # At half the rate it is long enough for two words.
        self.assertEqual(speech_of(FORM, 5, line), [(50, 6), (90, 8)])
        self.assertEqual(line_of(FORM, 5, [(50, 6), (90, 8)]), line)
        self.assertEqual(speech_of((2, "none"), 30, [(0, 0), (30, 1)]), [(0, 3)])
        self.assertEqual(speech_of((2, "none"), 15, [(0, 0), (30, 1)]), [(0, 2)])
        self.assertEqual(speech_of((2, "none"), 10, [(0, 0), (30, 1)]), [(0, 0)])
        self.is_refused((2, "none"), 9, [(0, 0), (30, 1)])
        self.is_refused((2, "none"), 6, [(0, 0), (30, 1)])

    def test_another_check(self):
        line = line_of((4, "even"), 10, [(50, 5)])
        self.is_refused((4, "odd"), 10, line)
        self.assertEqual(speech_of((5, "none"), 10, line), [(50, 5)])

    def test_the_next_word_within_the_stop(self):
        for rate in (2, 10):
            line = line_of(FORM, rate, [(0, 5), (SIZE * rate, 5)])
            second = [(moment, level) for moment, level in line if moment >= SIZE * rate]
            first = line[:len(line) - len(second)]
            self.is_refused(FORM, rate, first + [(moment - 1, level) for moment, level in second])
            told = speech_of(FORM, rate, first + [(moment + 1, level) for moment, level in second])
            self.assertEqual(told, [(0, 5), (SIZE * rate + 1, 5)])

    def test_a_line_that_stays_0(self):
        for form in SMALL:
            self.is_refused(form, 3, [(0, 0)])
            self.is_refused(form, 3, line_of(form, 3, [(0, 1)]) + [(100, 0)])
            self.is_refused(form, 3, [(0, 0), (3 * size_of(form), 1)])

    def test_very_long_lists(self):
        self.is_refused(FORM, 1, [(0, 0)] * 20000)
        self.is_refused(FORM, 1, [(k, k % 2) for k in range(20000)])
        self.is_refused(FORM, 1, [(20000 - k, k % 2) for k in range(20000)])
        self.is_refused(FORM, 1, [(k * 100, 0) for k in range(20000)])

    def test_other_things_are_refused_too(self):
        for thing in (None, True, 0, "", "0:1", (), ((0, 0), (30, 1)), [None], [0], [[0, 0], [30, 1]], [(0,)], [()],
                      [(0, 0, 0)], [(0, False), (3, True)], [(False, 0), (3, 1)], [(0, 2)], [(0, -1)], [(-1, 0), (2, 1)],
                      [("0", 0)], [(0, "0")], [(None, 0)], [(0, None)], [(10 ** 5000, 0)], [(0, 10 ** 5000)], [(0, (0,))]):
            self.is_refused((2, "none"), 1, thing)


if __name__ == "__main__":
    unittest.main()
