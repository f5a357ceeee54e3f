"""Points 2, 5 and 6: forms, words, levels, outcomes."""

import copy
import itertools
import unittest

from barewire.errors import NoLevels, NoWord
from barewire.forms import is_form, is_level, is_whole, levels_of, outcome, size_of

CHECKS = ("none", "even", "odd")
SMALL = [(bits, check) for bits in (2, 3, 5) for check in CHECKS]
ALL = [(bits, check) for bits in range(2, 17) for check in CHECKS]
VERY_GREAT = (10 ** 18, 10 ** 18 + 1, 1 << 64, 10 ** 5000)

NO_FORMS = (
    (1, "none"), (17, "none"), (0, "even"), (-2, "odd"), (-8, "none"), (10 ** 5000, "none"), (1, "even"), (17, "odd"),
    (True, "none"), (False, "even"), (None, "none"), ("8", "none"), ((8,), "none"), ([8], "none"),
    (8, "None"), (8, "NONE"), (8, "non"), (8, "none "), (8, " none"), (8, "nones"), (8, ""), (8, "Even"), (8, "evens"),
    (8, "eve"), (8, "Odd"), (8, "od"), (8, "odd\n"), (8, None), (8, True), (8, False), (8, 0), (8, 1), (8, 8),
    (8, ("none",)), (8, ["none"]), (8, []), ("none", 8), (8, ("n", "o", "n", "e")),
    (), (8,), ("none",), (8, "none", "even"), (8, "none", None), (8, 8, "none"), ((8, "none"),), ((8, "none"), (8, "none")),
    (((8, "none"),),), (((((8, "none"),),),),), (8, (8, (8, (8, "none")))),
    [8, "none"], [], [8], [(8, "none")], [[8, "none"]], [8, "none", "even"],
    True, False, None, 0, 1, 2, 8, 16, -1, 10 ** 5000, "", "8 none", "none", "ab", "8n", "(8, 'none')",
)


class WholeNumbersAndLevels(unittest.TestCase):
    def test_a_truth_is_no_whole_number(self):
        for thing in (0, 1, -1, 10 ** 5000):
            self.assertIs(is_whole(thing), True)
        for thing in (True, False, None, "", "1", [], [1], (), (1,)):
            self.assertIs(is_whole(thing), False)

    def test_a_level_is_the_whole_number_0_or_1(self):
        for thing in (0, 1):
            self.assertIs(is_level(thing), True)
        for thing in (-1, 2, True, False, None, "0", [0], (1,)):
            self.assertIs(is_level(thing), False)


class Forms(unittest.TestCase):
    def test_all_forms_are_forms(self):
        for form in ALL:
            with self.subTest(form):
                self.assertIs(is_form(form), True)

    def test_each_bound_of_bits(self):
        for check in CHECKS:
            told = [bits for bits in range(-20, 40) if is_form((bits, check))]
            self.assertEqual(told, list(range(2, 17)))

    def test_other_things_are_none(self):
        for number, thing in enumerate(NO_FORMS):
            with self.subTest(number):
                self.assertIs(is_form(thing), False)

    def test_what_is_handed_in_stays_as_it_was(self):
        for thing in ([8, "none"], (8, ["none"]), ([8], "none"), [[8, ["none", [1]]], (2, "odd")], (8, "none")):
            kept = copy.deepcopy(thing)
            is_form(thing)
            self.assertEqual(thing, kept)

    def test_size(self):
        self.assertEqual([size_of((2, check)) for check in CHECKS], [4, 5, 5])
        self.assertEqual([size_of((8, check)) for check in CHECKS], [10, 11, 11])
        self.assertEqual([size_of((16, check)) for check in CHECKS], [18, 19, 19])

    def test_the_size_is_how_many_levels_a_word_has(self):
        for form in ALL:
            for word in (0, 1, (1 << form[0]) - 1):
                self.assertEqual(size_of(form), len(levels_of(form, word)))


class Levels(unittest.TestCase):
    def test_the_least_word(self):
        self.assertEqual(levels_of((2, "none"), 0), [0, 0, 0, 1])
        self.assertEqual(levels_of((2, "even"), 0), [0, 0, 0, 0, 1])
        self.assertEqual(levels_of((2, "odd"), 0), [0, 0, 0, 1, 1])
        self.assertEqual(levels_of((16, "none"), 0), [0] * 17 + [1])
        self.assertEqual(levels_of((16, "even"), 0), [0] * 18 + [1])
        self.assertEqual(levels_of((16, "odd"), 0), [0] * 17 + [1, 1])

    def test_the_greatest_word(self):
        self.assertEqual(levels_of((2, "none"), 3), [0, 1, 1, 1])
        self.assertEqual(levels_of((2, "even"), 3), [0, 1, 1, 0, 1])
        self.assertEqual(levels_of((2, "odd"), 3), [0, 1, 1, 1, 1])
        self.assertEqual(levels_of((3, "even"), 7), [0, 1, 1, 1, 1, 1])
        self.assertEqual(levels_of((3, "odd"), 7), [0, 1, 1, 1, 0, 1])
        self.assertEqual(levels_of((16, "none"), 65535), [0] + [1] * 17)
        self.assertEqual(levels_of((16, "even"), 65535), [0] + [1] * 16 + [0, 1])
        self.assertEqual(levels_of((16, "odd"), 65535), [0] + [1] * 18)

    def test_the_least_bit_is_first(self):
        self.assertEqual(levels_of((8, "none"), 1), [0, 1, 0, 0, 0, 0, 0, 0, 0, 1])
        self.assertEqual(levels_of((8, "none"), 128), [0, 0, 0, 0, 0, 0, 0, 0, 1, 1])
        self.assertEqual(levels_of((8, "even"), 0b11010), [0, 0, 1, 0, 1, 1, 0, 0, 0, 1, 1])
        self.assertEqual(levels_of((8, "odd"), 0b11010), [0, 0, 1, 0, 1, 1, 0, 0, 0, 0, 1])

    def test_every_part_of_each_word(self):
        for form in SMALL + [(8, check) for check in CHECKS]:
            bits, check = form
            for word in range(1 << bits):
                told = levels_of(form, word)
                self.assertTrue(all(is_level(level) for level in told))
                self.assertEqual((told[0], told[-1]), (0, 1))
                self.assertEqual(told[1:bits + 1], [int(sign) for sign in reversed(f"{word:0{bits}b}")])
                if check != "none":
                    self.assertEqual(sum(told[1:-1]) % 2, 0 if check == "even" else 1)

    def test_what_is_no_word_is_refused(self):
        for form in ALL:
            above = 1 << form[0]
            for number in (-1, -2, -above, above, above + 1, 2 * above, *VERY_GREAT, *[-n for n in VERY_GREAT]):
                with self.assertRaises(NoWord):
                    levels_of(form, number)

    def test_what_is_no_whole_number_is_refused_too(self):
        for thing in (True, False, None, "1", "", [1], (1,), []):
            with self.subTest(thing), self.assertRaises(NoWord):
                levels_of((8, "none"), thing)

    def test_a_told_list_is_the_askers_own(self):
        for form in SMALL:
            told = levels_of(form, 2)
            kept = list(told)
            told[0] = 7
            told.append(9)
            self.assertEqual(levels_of(form, 2), kept)
            self.assertIs(type(levels_of(form, 2)), list)


class Outcomes(unittest.TestCase):
    def test_words(self):
        self.assertEqual(outcome((2, "none"), [0, 0, 1, 1]), ("word", 2))
        self.assertEqual(outcome((2, "even"), [0, 0, 1, 1, 1]), ("word", 2))
        self.assertEqual(outcome((2, "odd"), [0, 0, 1, 0, 1]), ("word", 2))
        self.assertEqual(outcome((8, "none"), [0, 0, 1, 0, 1, 1, 0, 0, 0, 1]), ("word", 26))

    def test_words_there_and_back(self):
        for form in SMALL + [(bits, check) for bits in (8, 10) for check in CHECKS]:
            for word in range(1 << form[0]):
                self.assertEqual(outcome(form, levels_of(form, word)), ("word", word))
        for check in CHECKS:
            for word in (0, 1, 2, 32767, 32768, 40961, 65534, 65535):
                self.assertEqual(outcome((16, check), levels_of((16, check), word)), ("word", word))

    def test_one_thing_broken(self):
        self.assertEqual(outcome((2, "none"), [1, 0, 1, 1]), ("broken", "start"))
        self.assertEqual(outcome((2, "none"), [0, 0, 1, 0]), ("broken", "stop"))
        for check, right in (("even", 1), ("odd", 0)):
            form = (2, check)
            self.assertEqual(outcome(form, [1, 0, 1, right, 1]), ("broken", "start"))
            self.assertEqual(outcome(form, [0, 0, 1, 1 - right, 1]), ("broken", "check"))
            self.assertEqual(outcome(form, [0, 0, 1, right, 0]), ("broken", "stop"))

    def test_which_is_told_where_several_are_broken(self):
        self.assertEqual(outcome((2, "none"), [1, 0, 1, 0]), ("broken", "start"))
        for check, right in (("even", 1), ("odd", 0)):
            form = (2, check)
            self.assertEqual(outcome(form, [1, 0, 1, 1 - right, 1]), ("broken", "start"))
            self.assertEqual(outcome(form, [1, 0, 1, right, 0]), ("broken", "start"))
            self.assertEqual(outcome(form, [1, 0, 1, 1 - right, 0]), ("broken", "start"))
            self.assertEqual(outcome(form, [0, 0, 1, 1 - right, 0]), ("broken", "check"))

    def test_every_row_of_small_forms(self):
        for form in SMALL:
            words = {tuple(levels_of(form, word)): word for word in range(1 << form[0])}
            for row in itertools.product((0, 1), repeat=size_of(form)):
                told = outcome(form, list(row))
                if row in words:
                    self.assertEqual(told, ("word", words[row]))
                elif row[0] == 1:
                    self.assertEqual(told, ("broken", "start"))
                elif row[:-1] + (1,) in words:
                    self.assertEqual(told, ("broken", "stop"))
                else:
                    self.assertEqual(told, ("broken", "check"))

    def test_rows_of_another_length_are_refused(self):
        for form in ALL:
            row = levels_of(form, 1)
            for other in ([], row[:1], row[:-1], row[1:], row + [1], row + [0], [0] + row, row * 2, [1] * 20000):
                with self.assertRaises(NoLevels):
                    outcome(form, other)

    def test_a_word_of_another_check_is_refused(self):
        with self.assertRaises(NoLevels):
            outcome((8, "none"), levels_of((8, "even"), 5))
        with self.assertRaises(NoLevels):
            outcome((8, "odd"), levels_of((8, "none"), 5))

    def test_what_is_no_row_of_levels_is_refused_too(self):
        for thing in (None, 0, True, "0011", [0, 0, 1, 2], [0, -1, 1, 1], [0, True, 1, 1], [0, None, 1, 1], [[0], 0, 1, 1]):
            with self.subTest(thing), self.assertRaises(NoLevels):
                outcome((2, "none"), thing)

    def test_the_row_stays_as_it_was(self):
        for form in SMALL:
            for row in (levels_of(form, 3), [1] * size_of(form), [0] * size_of(form)):
                kept = list(row)
                outcome(form, row)
                self.assertEqual(row, kept)
            row = [0]
            with self.assertRaises(NoLevels):
                outcome(form, row)
            self.assertEqual(row, [0])


if __name__ == "__main__":
    unittest.main()
