"""Point 11: beats, the first beat at or behind a moment, rows by beats, struck rows."""

import random
import unittest

from barewire.beats import beats_in, first_from, moment_of, row_by, struck
from barewire.forms import size_of
from barewire.lines import level_at, line_of

CHECKS = ("none", "even", "odd")
LAST = 10 ** 18
MOST_STEP = 10 ** 12


class Moments(unittest.TestCase):
    def test_of_a_beat(self):
        self.assertEqual([moment_of((0, 1), k) for k in range(4)], [0, 1, 2, 3])
        self.assertEqual([moment_of((7, 5), k) for k in range(4)], [7, 12, 17, 22])
        self.assertEqual(moment_of((LAST, MOST_STEP), 0), LAST)
        self.assertEqual(moment_of((LAST, MOST_STEP), 20000), LAST + 20000 * MOST_STEP)
        self.assertEqual(moment_of((3, MOST_STEP), 10 ** 6), LAST + 3)

    def test_the_first_from_every_moment(self):
        for first in range(6):
            for step in (1, 2, 3, 7):
                moments = [first + k * step for k in range(60)]
                for moment in range(50):
                    told = first_from((first, step), moment)
                    self.assertEqual(told, min(k for k in range(60) if moments[k] >= moment))

    def test_the_first_from_a_tick_ahead_and_a_tick_behind(self):
        for first in (0, 1, 10 ** 9 + 7, LAST - 5 * MOST_STEP):
            for step in (1, 2, 16, MOST_STEP - 1, MOST_STEP):
                for k in (0, 1, 2, 5):
                    moment = first + k * step
                    self.assertEqual(first_from((first, step), moment), k)
                    self.assertEqual(first_from((first, step), moment + 1), k + 1)
                    if moment > 0:
                        self.assertEqual(first_from((first, step), moment - 1), k if step > 1 or k == 0 else k - 1)

    def test_the_first_from_ahead_of_the_first_beat(self):
        for first in (1, 5, LAST):
            for step in (1, 3, MOST_STEP):
                for moment in (0, first // 2, first - 1, first):
                    self.assertEqual(first_from((first, step), moment), 0)

    def test_the_first_from_very_late(self):
        self.assertEqual(first_from((0, 1), LAST), LAST)
        self.assertEqual(first_from((1, 1), LAST), LAST - 1)
        self.assertEqual(first_from((0, MOST_STEP), LAST), 10 ** 6)
        self.assertEqual(first_from((1, MOST_STEP), LAST), 10 ** 6)
        self.assertEqual(first_from((0, MOST_STEP), LAST - 1), 10 ** 6)
        self.assertEqual(first_from((0, 3), LAST), LAST // 3 + 1)
        self.assertEqual(first_from((LAST, MOST_STEP), LAST), 0)

    def test_the_moment_of_the_first_from(self):
        source = random.Random(21)
        for count in range(3000):
            beats = (source.randint(0, LAST), source.randint(1, MOST_STEP))
            moment = source.randint(0, LAST)
            k = first_from(beats, moment)
            self.assertGreaterEqual(moment_of(beats, k), moment)
            self.assertTrue(k == 0 or moment_of(beats, k - 1) < moment)


class BeatsIn(unittest.TestCase):
    def test_every_stretch(self):
        for first in (0, 1, 4):
            for step in (1, 2, 5):
                moments = [first + k * step for k in range(40)]
                for low in range(20):
                    for high in range(20):
                        many = sum(1 for moment in moments if low <= moment < high)
                        self.assertEqual(beats_in((first, step), low, high), many)

    def test_from_low_on_ahead_of_high(self):
        beats = (10, 5)
        self.assertEqual(beats_in(beats, 10, 11), 1)
        self.assertEqual(beats_in(beats, 10, 15), 1)
        self.assertEqual(beats_in(beats, 10, 16), 2)
        self.assertEqual(beats_in(beats, 11, 15), 0)
        self.assertEqual(beats_in(beats, 11, 16), 1)
        self.assertEqual(beats_in(beats, 0, 10), 0)
        self.assertEqual(beats_in(beats, 0, 11), 1)

    def test_a_second_moment_no_later_than_the_first(self):
        for beats in ((0, 1), (10, 5), (LAST, MOST_STEP)):
            for low in (0, 10, 20, LAST):
                for high in (0, 9, 10, 20, LAST):
                    if high <= low:
                        self.assertEqual(beats_in(beats, low, high), 0)

    def test_very_many_and_very_late(self):
        self.assertEqual(beats_in((0, 1), 0, LAST), LAST)
        self.assertEqual(beats_in((0, MOST_STEP), 0, LAST), 10 ** 6)
        self.assertEqual(beats_in((1, MOST_STEP), 0, LAST), 10 ** 6)
        self.assertEqual(beats_in((LAST, 1), 0, LAST), 0)
        self.assertEqual(beats_in((LAST - 1, 1), 0, LAST), 1)


def some_line(source, form, rate, many):
    """The line of some words with rests of some ticks, and the end of the last one."""
    speech, free = [], 0
    for number in range(many):
        begin = free + source.randrange(3 * rate)
        speech.append((begin, source.randrange(1 << form[0])))
        free = begin + size_of(form) * rate
    return line_of(form, rate, speech), free


class Rows(unittest.TestCase):
    def test_told_rows(self):
        line = [(10, 0), (20, 1), (21, 0), (50, 1)]
        self.assertEqual(row_by(line, (0, 10), 7), [1, 0, 1, 0, 0, 1, 1])
        self.assertEqual(row_by(line, (9, 1), 4), [1, 0, 0, 0])
        self.assertEqual(row_by(line, (19, 1), 4), [0, 1, 0, 0])
        self.assertEqual(row_by(line, (49, 1), 3), [0, 1, 1])
        self.assertEqual(row_by(line, (30, 1), 3), [0, 0, 0])
        self.assertEqual(row_by(line, (0, 1), 3), [1, 1, 1])
        self.assertEqual(row_by(line, (50, 100), 3), [1, 1, 1])
        self.assertEqual(row_by(line, (LAST, MOST_STEP), 2), [1, 1])
        self.assertEqual(row_by(line, (0, MOST_STEP), 2), [1, 1])
        self.assertEqual(row_by([(0, 0), (1, 1)], (0, 1), 2), [0, 1])

    def test_no_beats(self):
        for line in ([], [(0, 0), (5, 1)], [(10, 0), (20, 1)]):
            for beats in ((0, 1), (10, 3), (LAST, MOST_STEP)):
                self.assertEqual(row_by(line, beats, 0), [])

    def test_a_line_without_changes(self):
        self.assertEqual(row_by([], (0, 1), 5), [1] * 5)
        self.assertTrue(row_by([], (LAST, MOST_STEP), 20000) == [1] * 20000)

    def test_beat_by_beat(self):
        source = random.Random(22)
        for check in CHECKS:
            for rate in (1, 7, 16):
                line, end = some_line(source, (3, check), rate, 5)
                for first in (0, 1, line[0][0], line[0][0] + 1, line[1][0] - 1, line[1][0], line[-1][0], end, end + 100):
                    for step in (1, 2, 7, 16, 1000):
                        for many in (1, 2, 30, 200):
                            told = row_by(line, (first, step), many)
                            self.assertTrue(told == [level_at(line, first + k * step) for k in range(many)])

    def test_beats_on_the_very_changes(self):
        line, end = some_line(random.Random(23), (5, "odd"), 16, 10)
        for moment, level in line:
            self.assertEqual(row_by(line, (moment, 1), 1), [level])
            self.assertEqual(row_by(line, (moment - 1, 1), 2), [1 - level, level])

    def test_some_thousand(self):
        line, end = some_line(random.Random(24), (16, "even"), MOST_STEP, 60)
        for step in (end // 20000, MOST_STEP // 16, MOST_STEP):
            told = row_by(line, (5, step), 20000)
            self.assertTrue(told == [level_at(line, 5 + k * step) for k in range(20000)])

    def test_the_told_list_is_new_and_the_line_stays(self):
        for line in ([], [(10, 0), (20, 1)]):
            kept = list(line)
            told = row_by(line, (5, 5), 4)
            self.assertIs(type(told), list)
            whole = list(told)
            told[0] = 9
            told.append(9)
            self.assertEqual(row_by(line, (5, 5), 4), whole)
            self.assertEqual(line, kept)


class Struck(unittest.TestCase):
    def test_strikes(self):
        row = [0, 1, 1, 0]
        self.assertEqual(struck(row, []), [0, 1, 1, 0])
        self.assertEqual(struck(row, [0]), [1, 1, 1, 0])
        self.assertEqual(struck(row, [3]), [0, 1, 1, 1])
        self.assertEqual(struck(row, [0, 3]), [1, 1, 1, 1])
        self.assertEqual(struck(row, [2, 0, 1]), [1, 0, 0, 0])
        self.assertEqual(struck(row, [0, 1, 2, 3]), [1, 0, 0, 1])

    def test_beyond_the_row(self):
        row = [0, 1, 1, 0]
        self.assertEqual(struck(row, [4]), row)
        self.assertEqual(struck(row, [4, 5, 20000, LAST]), row)
        self.assertEqual(struck(row, [3, 4]), [0, 1, 1, 1])
        self.assertEqual(struck(row, [4, 3]), [0, 1, 1, 1])
        self.assertEqual(struck([], [0, 1]), [])
        self.assertEqual(struck([], []), [])

    def test_long_rows(self):
        row = [(k * k // 7 + k // 3) % 2 for k in range(20000)]
        kept = list(row)
        strikes = list(range(0, 21000, 3))
        told = struck(row, strikes)
        self.assertTrue([k for k in range(20000) if told[k] != row[k]] == list(range(0, 20000, 3)))
        self.assertTrue(struck(told, strikes) == kept)
        self.assertTrue(row == kept)

    def test_the_told_list_is_new_and_what_is_handed_in_stays(self):
        for strikes in ([], [1], [9]):
            row, kept = [0, 1], list(strikes)
            told = struck(row, strikes)
            self.assertIs(type(told), list)
            told[0] = 9
            told.append(9)
            self.assertEqual((row, strikes), ([0, 1], kept))


if __name__ == "__main__":
    unittest.main()
