"""Points 7 and 8, and of point 4 what it says of flipped levels."""

import itertools
import time
import unittest

from barewire.errors import NoLevels
from barewire.flips import flipped, nearest, strangers, unlike
from barewire.forms import levels_of, outcome, size_of

CHECKS = ("none", "even", "odd")
SMALL = [(bits, check) for bits in (2, 3, 5) for check in CHECKS]
LONG = [(k * k // 7 + k // 3) % 2 for k in range(20000)]


def counted_strangers(form, word, many):
    """By going through all sets of so many places."""
    row = levels_of(form, word)
    sets = itertools.combinations(range(len(row)), many)
    return sum(1 for places in sets if outcome(form, flipped(row, list(places)))[0] == "word")


def nearest_by_all(form, row, words):
    """By going through all words, handed in as their levels in order."""
    far = [unlike(row, levels) for levels in words]
    least = min(far)
    return (least, [word for word, many in enumerate(far) if many == least])


class Unlike(unittest.TestCase):
    def test_rows(self):
        self.assertEqual(unlike([], []), 0)
        self.assertEqual(unlike([0], [0]), 0)
        self.assertEqual(unlike([0], [1]), 1)
        self.assertEqual(unlike([0, 1, 1], [1, 1, 1]), 1)
        self.assertEqual(unlike([0, 1, 1], [0, 1, 0]), 1)
        self.assertEqual(unlike([0, 1, 0, 1], [1, 0, 1, 0]), 4)

    def test_long_rows(self):
        self.assertEqual(unlike(LONG, LONG), 0)
        self.assertEqual(unlike(LONG, [1 - level for level in LONG]), 20000)
        self.assertEqual(unlike(LONG, flipped(LONG, [0, 7, 19999])), 3)

    def test_the_rows_stay_as_they_were(self):
        one, other = [0, 1], [1, 1]
        unlike(one, other)
        self.assertEqual((one, other), ([0, 1], [1, 1]))


class Flipped(unittest.TestCase):
    def test_places(self):
        row = [0, 1, 1, 0]
        self.assertEqual(flipped(row, []), [0, 1, 1, 0])
        self.assertEqual(flipped(row, [0]), [1, 1, 1, 0])
        self.assertEqual(flipped(row, [3]), [0, 1, 1, 1])
        self.assertEqual(flipped(row, [3, 1, 0]), [1, 0, 1, 1])
        self.assertEqual(flipped(row, [0, 1, 2, 3]), [1, 0, 0, 1])
        self.assertEqual(flipped([], []), [])

    def test_long_rows(self):
        # assertTrue, since assertEqual takes very long to show how long rows are unlike.
        kept = list(LONG)
        self.assertTrue(flipped(LONG, list(range(20000))) == [1 - level for level in kept])
        places = list(range(0, 20000, 3))
        told = flipped(LONG, places)
        self.assertTrue([k for k in range(20000) if told[k] != kept[k]] == places)
        self.assertTrue(flipped(told, places) == kept)
        self.assertTrue(LONG == kept)

    def test_the_list_told_is_a_new_one(self):
        row, places = [0, 1, 1, 0], [2, 0]
        for asked in ([], places):
            told = flipped(row, asked)
            self.assertIs(type(told), list)
            told[1] = 7
            told.append(9)
            self.assertEqual((row, places), ([0, 1, 1, 0], [2, 0]))
        self.assertEqual(flipped(row, places), [1, 1, 0, 0])


class OneFlip(unittest.TestCase):
    def test_is_known_where_there_is_a_check(self):
        for check in ("even", "odd"):
            for bits in (2, 3, 5, 8):
                for word in range(1 << bits):
                    self.every_place_is_known((bits, check), word)
            for word in (0, 1, 21845, 32768, 65535):
                self.every_place_is_known((16, check), word)

    def every_place_is_known(self, form, word):
        row = levels_of(form, word)
        for place in range(len(row)):
            self.assertEqual(outcome(form, flipped(row, [place]))[0], "broken")

    def test_is_not_known_at_a_bit_without_a_check(self):
        form = (8, "none")
        for word in range(256):
            row = levels_of(form, word)
            for place in range(1, 9):
                told = outcome(form, flipped(row, [place]))
                self.assertEqual(told, ("word", word ^ (1 << (place - 1))))


class Strangers(unittest.TestCase):
    def test_told_numbers(self):
        self.assertEqual([strangers((2, "none"), many) for many in range(1, 5)], [2, 1, 0, 0])
        self.assertEqual([strangers((2, "even"), many) for many in range(1, 6)], [0, 3, 0, 0, 0])
        self.assertEqual([strangers((3, "odd"), many) for many in range(1, 7)], [0, 6, 0, 1, 0, 0])

    def test_small_forms_by_going_through_all_sets(self):
        for form in SMALL:
            for many in range(1, size_of(form) + 1):
                told = strangers(form, many)
                for word in {0, 1, (1 << form[0]) - 2, (1 << form[0]) - 1}:
                    with self.subTest(form, many=many, word=word):
                        self.assertEqual(told, counted_strangers(form, word, many))

    def test_the_same_for_each_word(self):
        for form in [(3, check) for check in CHECKS]:
            for many in range(1, size_of(form) + 1):
                counts = {counted_strangers(form, word, many) for word in range(8)}
                self.assertEqual(counts, {strangers(form, many)})

    def test_forms_of_16_bits_by_the_words_so_far_away(self):
        # Each such set of places leads to another word, so counting those counts the sets.
        for check in CHECKS:
            form = (16, check)
            row = levels_of(form, 4711)
            counts = [0] * (size_of(form) + 1)
            for word in range(1 << 16):
                counts[unlike(row, levels_of(form, word))] += 1
            self.assertEqual(counts[0], 1)
            self.assertEqual([strangers(form, many) for many in range(1, size_of(form) + 1)], counts[1:])

    def test_forms_of_16_bits_in_a_short_time(self):
        begun = time.monotonic()
        for check in CHECKS:
            for many in list(range(1, 19)) * 20:
                strangers((16, check), many)
        self.assertLess(time.monotonic() - begun, 2)


class Nearest(unittest.TestCase):
    def test_a_words_own_levels(self):
        for form in SMALL + [(8, check) for check in CHECKS]:
            for word in range(1 << form[0]):
                self.assertEqual(nearest(form, levels_of(form, word)), (0, [word]))

    def test_told_rows(self):
        self.assertEqual(nearest((2, "none"), [1, 1, 0, 0]), (2, [1]))
        self.assertEqual(nearest((2, "even"), [0, 1, 0, 0, 1]), (1, [0, 1, 3]))
        self.assertEqual(nearest((2, "even"), [1, 1, 0, 0, 0]), (3, [0, 1, 3]))
        self.assertEqual(nearest((3, "odd"), [0, 0, 0, 0, 0, 1]), (1, [0, 1, 2, 4]))

    def test_small_forms_by_going_through_all_words(self):
        for form in SMALL:
            words = [levels_of(form, word) for word in range(1 << form[0])]
            for row in itertools.product((0, 1), repeat=size_of(form)):
                self.assertEqual(nearest(form, list(row)), nearest_by_all(form, row, words))

    def test_forms_of_16_bits(self):
        for check in CHECKS:
            form = (16, check)
            words = [levels_of(form, word) for word in range(1 << 16)]
            for places in ([], [0], [3], [17], [0, 5], [0, 1, 2, size_of(form) - 1]):
                row = flipped(levels_of(form, 40961), places)
                self.assertEqual(nearest(form, row), nearest_by_all(form, row, words))

    def test_rows_of_another_length_are_refused(self):
        for form in SMALL + [(16, check) for check in CHECKS]:
            row = levels_of(form, 1)
            for other in ([], row[:-1], row[1:], row + [1], [0] + row, row * 2, LONG):
                with self.assertRaises(NoLevels):
                    nearest(form, other)

    def test_the_row_stays_and_the_list_is_the_askers_own(self):
        for row in ([0, 1, 0, 0, 1], [0, 1, 0, 1, 1]):
            kept = list(row)
            many, words = nearest((2, "even"), row)
            told = list(words)
            words.append(9)
            self.assertEqual(row, kept)
            self.assertEqual(nearest((2, "even"), row), (many, told))


if __name__ == "__main__":
    unittest.main()
