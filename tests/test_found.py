"""Points 17 to 19: the row of a word, the rates and behinds found from a row, and the fit."""

import itertools
import random
import unittest

from by_words import CHECKS, MOST, all_ears, level_by_words, levels_by_words, size_by_words, sure_by_words

from barewire.found import fit, found_behinds, found_rates, row_of

FORMS = [(bits, check) for bits in (2, 3, 8, 16) for check in CHECKS]


def row_by_words(form, word, step, rate, behind, many):
    """Point 17."""
    return [level_by_words(form, rate, [(0, word)], behind + k * step) for k in range(many)]


def all_rows(form, word, step, many):
    """Each row of so many levels that a rate of at most many times the step and 1 gives, with its rates and behinds.

    All greater rates give the row of nothing but the start, as that rate does with each behind.
    """
    told = {}
    for rate in range(step, many * step + 2):
        for behind in range(step):
            row = tuple(row_by_words(form, word, step, rate, behind, many))
            told.setdefault(row, {}).setdefault(rate, []).append(behind)
    return told


class RowOf(unittest.TestCase):
    def test_told_rows(self):
        self.assertEqual(row_of((2, "none"), 1, 1, 1, 0, 6), [0, 1, 0, 1, 1, 1])
        self.assertEqual(row_of((2, "none"), 1, 2, 3, 0, 8), [0, 0, 1, 0, 0, 1, 1, 1])
        self.assertEqual(row_of((2, "none"), 1, 2, 3, 1, 8), [0, 1, 1, 0, 1, 1, 1, 1])
        self.assertEqual(row_of((2, "odd"), 1, 5, 5, 4, 6), [0, 1, 0, 0, 1, 1])
        self.assertEqual(row_of((2, "even"), 1, 5, 5, 4, 1), [0])
        self.assertEqual(row_of((2, "even"), 1, 5, 5, 4, 0), [])

    def test_against_the_words(self):
        source = random.Random(61)
        for form in FORMS:
            for step in range(1, 7):
                for rate in (step, step + 1, 2 * step - 1, 3 * step + 1, 40):
                    word = source.randrange(1 << form[0])
                    for behind in range(step):
                        for many in (1, 2, 7, 60):
                            told = row_of(form, word, step, rate, behind, many)
                            self.assertEqual(told, row_by_words(form, word, step, rate, behind, many))

    def test_great_numbers(self):
        for form in FORMS:
            word = (1 << form[0]) - 2
            levels = levels_by_words(form, word)
            for behind in (0, 1, MOST - 1):
                self.assertEqual(row_of(form, word, MOST, MOST, behind, 30), levels + [1] * (30 - len(levels)))
            self.assertTrue(row_of(form, word, 1, MOST, 0, 20000) == [0] * 20000)

    def test_the_told_list_is_the_askers_own(self):
        told = row_of((2, "none"), 1, 1, 1, 0, 6)
        self.assertIs(type(told), list)
        told[0] = 9
        self.assertEqual(row_of((2, "none"), 1, 1, 1, 0, 6), [0, 1, 0, 1, 1, 1])


class Found(unittest.TestCase):
    def same(self, form, word, step, row, rows):
        """Against all rates and behinds with which some rows are rows of the word."""
        ways = rows.get(tuple(row), {})
        kept = list(row)
        told = found_rates(form, word, step, row)
        if not ways:
            self.assertIsNone(told)
        else:
            most = MOST if not any(row) else max(ways)
            self.assertEqual(told, (min(ways), most))
            self.assertEqual(sorted(ways), list(range(min(ways), max(ways) + 1)))
        for rate in range(step, len(row) * step + 2):
            told = found_behinds(form, word, step, row, rate)
            behinds = ways.get(rate)
            self.assertEqual(told, (behinds[0], behinds[-1]) if behinds else None)
            if behinds:
                self.assertEqual(behinds, list(range(behinds[0], behinds[-1] + 1)))
        self.assertEqual(row, kept)

    def test_every_short_row(self):
        for check, step in itertools.product(CHECKS, (1, 2, 3)):
            form = (2, check)
            for word in range(4):
                for many in range(1, 9):
                    rows = all_rows(form, word, step, many)
                    for row in itertools.product((0, 1), repeat=many):
                        self.same(form, word, step, list(row), rows)

    def test_every_row_of_a_word(self):
        source = random.Random(62)
        for form in [(bits, check) for bits in (2, 3, 5, 8) for check in CHECKS]:
            for step in range(1, 7):
                word = source.randrange(1 << form[0])
                # Rows that end amid the word, and rows longer than the word.
                for many in (2, 9, 2 * size_by_words(form)):
                    rows = all_rows(form, word, step, many)
                    for row in source.sample(sorted(rows), min(6, len(rows))):
                        self.same(form, word, step, list(row), rows)
                        # The row with one level flipped, mostly no row of the word.
                        other = list(row)
                        other[source.randrange(many)] ^= 1
                        self.same(form, word, step, other, rows)

    def test_words_of_few_and_of_many_changes(self):
        for form in ((4, "none"), (4, "even"), (4, "odd")):
            for word in (0, 15, 5, 10, 8, 7):
                for step, many in ((1, 12), (3, 9), (4, 14)):
                    rows = all_rows(form, word, step, many)
                    for row in rows:
                        self.same(form, word, step, list(row), rows)

    def test_a_row_of_one_level(self):
        for form in FORMS:
            for step in (1, 5, MOST - 1, MOST):
                self.assertEqual(found_rates(form, 1, step, [0]), (step, MOST))
                self.assertIsNone(found_rates(form, 1, step, [1]))
                for rate in {step, MOST}:
                    self.assertEqual(found_behinds(form, 1, step, [0], rate), (0, step - 1))
                    self.assertIsNone(found_behinds(form, 1, step, [1], rate))

    def test_a_row_of_the_start_alone(self):
        # The word's first bits are 0, too, so the row may be longer than the start.
        form, step = (4, "none"), 10
        self.assertEqual(found_rates(form, 15, step, [0] * 5), (41, MOST))
        self.assertEqual(found_rates(form, 14, step, [0] * 5), (21, MOST))
        self.assertEqual(found_rates(form, 8, step, [0] * 5), (11, MOST))
        self.assertEqual(found_rates(form, 0, step, [0] * 5), (10, MOST))
        self.assertEqual(found_rates(form, 0, step, [0] * 6), (11, MOST))
        self.assertTrue(found_rates((16, "even"), 0, 1, [0] * 20000) == (1112, MOST))

    def test_rows_alike_to_the_lines_end(self):
        # From the last change on the row is 1 for ever: more of these tell nothing new.
        for form in FORMS:
            word = (1 << form[0]) - 1
            for step, rate, behind in ((1, 4, 0), (5, 7, 3), (1000, 1600, 777)):
                told = set()
                size = size_by_words(form)
                for many in (size * rate // step + 1, size * rate // step + 2, 2000):
                    row = row_of(form, word, step, rate, behind, many)
                    told.add((found_rates(form, word, step, row), found_behinds(form, word, step, row, rate)))
                self.assertEqual(len(told), 1)
                (least, most), (low, high) = told.pop()
                self.assertTrue(least <= rate <= most and low <= behind <= high)
        # Of one change only: at beat 3 from a change at one rate.
        self.assertEqual(found_rates((2, "none"), 3, 10, [0, 0, 0, 1, 1, 1]), (21, 39))
        self.assertEqual(found_rates((2, "none"), 3, 10, [0] * 3 + [1] * 19000), (21, 39))

    def test_more_changes_than_the_word_has(self):
        self.assertIsNone(found_rates((2, "none"), 3, 10, [0, 1, 0]))
        self.assertIsNone(found_rates((2, "none"), 1, 10, [0, 1, 0, 1, 0]))
        self.assertIsNone(found_behinds((2, "none"), 1, 10, [0, 1, 0, 1, 0], 10))
        self.assertIsNone(found_rates((2, "none"), 1, 10, [0, 1] * 10000))

    def test_the_greatest_rate_and_step(self):
        for form in FORMS:
            for word in (0, 1, (1 << form[0]) - 2):
                size = size_by_words(form)
                row = row_of(form, word, MOST, MOST, 5, size + 3)
                self.assertEqual(found_rates(form, word, MOST, row), (MOST, MOST))
                self.assertEqual(found_behinds(form, word, MOST, row, MOST), (0, MOST - 1))
                # Below the step, and above the greatest rate, are no rates.
                self.assertIsNone(found_rates(form, word, MOST, [0] + row))
                self.assertIsNone(found_behinds(form, word, MOST, [0] + row, MOST))
                self.assertIsNone(found_rates(form, word, MOST, row[1:]))

    def test_great_rows_have_their_own_rate_and_no_tick_beyond_the_ends(self):
        source = random.Random(63)
        for count in range(600):
            form = (source.randint(2, 16), source.choice(CHECKS))
            word = source.randrange(1 << form[0])
            step = source.choice((1, 17, 10 ** 6, MOST // 100, source.randint(1, MOST)))
            rate = min(MOST, source.choice((step, 2 * step - 1, 16 * step + source.randint(-step, step), source.randint(step, MOST))))
            behind, many = source.randrange(step), source.choice((1, 5, 40, 400))
            row = row_of(form, word, step, rate, behind, many)
            least, most = found_rates(form, word, step, row)
            self.assertTrue(step <= least <= rate <= most <= MOST)
            for other in {least, (least + most) // 2, most}:
                low, high = found_behinds(form, word, step, row, other)
                self.assertTrue(0 <= low <= high < step)
                for tick in {low, (low + high) // 2, high}:
                    self.assertTrue(row_of(form, word, step, other, tick, many) == row)
                for tick in (low - 1, high + 1):
                    if 0 <= tick < step:
                        self.assertFalse(row_of(form, word, step, other, tick, many) == row)
            for other in (least - 1, most + 1):
                if step <= other <= MOST:
                    self.assertIsNone(found_behinds(form, word, step, row, other))

    def test_long_rows(self):
        form, word = (16, "odd"), 0b1001011101011010
        for rate in (300, 1000, 1052):
            row = row_of(form, word, 1, rate, 0, 20000)
            self.assertEqual(found_rates(form, word, 1, row), (rate, rate))
        row = row_of(form, word, 7, 7003, 3, 20000)
        least, most = found_rates(form, word, 7, row)
        self.assertTrue(least <= 7003 <= most < least + 2)


class Fit(unittest.TestCase):
    def by_going_through(self, form, beside, step, least, most, ears):
        for ear in ears[beside]:
            if sure_by_words(form, ear, step, least) and sure_by_words(form, ear, step, most):
                return ear
        return None

    def test_told_ones(self):
        self.assertEqual(fit((2, "none"), 0, 1, 3, 3), (3, 1, 0))
        self.assertEqual(fit((2, "none"), 1, 10, 48, 53), (5, 2, 1))
        # A tick more at either end, and that ear is not enough.
        self.assertNotEqual(fit((2, "none"), 1, 10, 47, 53), (5, 2, 1))
        self.assertNotEqual(fit((2, "none"), 1, 10, 48, 54), (5, 2, 1))
        self.assertIsNone(fit((2, "none"), 0, 1, 1, 1))
        self.assertIsNone(fit((2, "none"), 0, 1, 2, 2))
        self.assertIsNone(fit((2, "none"), 3, 1, 7, 7))
        self.assertEqual(fit((2, "none"), 3, 1, 8, 8), (8, 4, 3))

    def test_against_going_through_all_ears(self):
        ears = {beside: all_ears(3, 64, (beside,)) for beside in range(4)}
        source = random.Random(64)
        seen = {True: 0, False: 0}
        for form, beside in itertools.product(((2, "none"), (3, "even"), (8, "odd"), (16, "none")), range(4)):
            for step in (1, 10, 1000):
                for over in (4, 9, 20, 63):
                    rate = over * step + source.randrange(step)
                    for wide in (0, 1, rate // 60, rate // 20, rate // 5):
                        told = fit(form, beside, step, rate, rate + wide)
                        self.assertEqual(told, self.by_going_through(form, beside, step, rate, rate + wide, ears))
                        seen[told is not None] += 1
        self.assertGreater(min(seen.values()), 100)

    def test_all_rates_between_are_sure(self):
        source = random.Random(65)
        for count in range(40):
            form = (source.randint(2, 16), source.choice(CHECKS))
            step = source.choice((10, 100))
            least = source.randint(10, 50) * step
            most = least + step // 3
            ear = fit(form, source.randint(0, 3), step, least, most)
            if ear is not None:
                self.assertTrue(all(sure_by_words(form, ear, step, rate) for rate in range(least, most + 1)))

    def test_great_numbers(self):
        self.assertEqual(fit((2, "none"), 0, MOST // 3, MOST, MOST), (3, 1, 0))
        self.assertIsNone(fit((2, "none"), 0, MOST, MOST, MOST))
        self.assertIsNone(fit((16, "even"), 0, 1, MOST, MOST))
        self.assertIsNone(fit((16, "even"), 0, 1, 1, MOST))
        # Over 18 levels an ear of 61 beats a level falls 54 short, which its spot makes up for.
        self.assertEqual(fit((16, "odd"), 3, MOST // 64, MOST, MOST), (61, 57, 3))

    def test_rates_beyond_the_greatest_over(self):
        # The greatest over, and its greatest spot, have the greatest sure rates.
        form = (2, "none")
        most = min((k * 64 + 63) // k for k in (1, 2, 3))
        self.assertEqual(fit(form, 0, 1, most, most), (64, 63, 0))
        self.assertIsNone(fit(form, 0, 1, most + 1, most + 1))

    def test_it_is_told_the_same_again(self):
        for beside in range(4):
            self.assertEqual(fit((8, "even"), beside, 100, 1590, 1610), fit((8, "even"), beside, 100, 1590, 1610))
            self.assertIs(type(fit((8, "even"), beside, 100, 1590, 1610)), tuple)


if __name__ == "__main__":
    unittest.main()
