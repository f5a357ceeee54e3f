"""Points 20 and 21: the rest of a form and an ear, rounds, and how a listener gets in step."""

import itertools
import random
import unittest

from by_words import CHECKS, all_ears, drawn_out, hear_by_words, levels_by_words, reach_by_words, size_by_words

from barewire.ears import Listener
from barewire.rounds import joins, rest_of, round_levels

FORMS = [(bits, check) for bits in (2, 3, 8, 16) for check in CHECKS]
EARS = [(3, 1, 0), (3, 2, 0), (4, 2, 1), (5, 3, 1), (6, 3, 2), (8, 4, 3), (16, 8, 1), (12, 4, 3), (12, 8, 3)]


class Rest(unittest.TestCase):
    def at_rest_with_1_ahead(self, form, ear, row):
        """By point 13: no word has begun, and a 0 would begin one."""
        return hear_by_words(form, ear, row)[1] is None and hear_by_words(form, ear, row + [0])[1] == len(row)

    def rests_behind(self, form, ear, row):
        whole = row + [1] * rest_of(form, ear)
        self.assertTrue(self.at_rest_with_1_ahead(form, ear, whole), (form, ear, row))
        listener = Listener(form, ear)
        for level in whole:
            listener.beat(level)
        self.assertIs(listener.at_rest(), True)
        listener.beat(0)
        self.assertIs(listener.at_rest(), False)

    def test_told_ones(self):
        self.assertEqual([rest_of((2, check), (3, 1, 0)) for check in CHECKS], [9, 12, 12])
        self.assertEqual([rest_of((2, check), (3, 2, 0)) for check in CHECKS], [9, 12, 12])
        self.assertEqual([rest_of((8, check), (16, 8, 1)) for check in CHECKS], [145, 161, 161])
        self.assertEqual([rest_of((16, check), (64, 60, 3)) for check in CHECKS], [1091, 1155, 1155])

    def test_every_form_and_ear(self):
        for form in [(bits, check) for bits in range(2, 17) for check in CHECKS]:
            for over, spot, beside in all_ears(3, 64)[::17]:
                self.assertEqual(rest_of(form, (over, spot, beside)), (size_by_words(form) - 1) * over + beside)

    def test_one_beat_less_is_not_enough(self):
        for form, ear in itertools.product(FORMS, EARS + all_ears(3, 64)[::97]):
            over, spot, beside = ear
            # A start that is just true: its first asked beats are 0, and just so many that they outweigh the others.
            row = [0] * (spot + 1)
            self.assertFalse(self.at_rest_with_1_ahead(form, ear, row + [1] * (rest_of(form, ear) - 1)))
            self.rests_behind(form, ear, row)

    def test_behind_every_short_row(self):
        for form, ear, most in (((2, "none"), (3, 1, 0), 11), ((2, "none"), (3, 2, 0), 11), ((2, "odd"), (4, 2, 1), 9),
                                ((2, "none"), (5, 3, 1), 9), ((2, "none"), (6, 3, 2), 9)):
            for many in range(most + 1):
                for row in itertools.product((0, 1), repeat=many):
                    self.rests_behind(form, ear, list(row))

    def test_behind_stretches_of_0(self):
        for form, ear in itertools.product(FORMS[:6], EARS):
            reach = reach_by_words(form, ear)
            for many in (1, ear[1], ear[1] + 1, ear[0], reach, reach + 1, reach + 2, 2 * reach + 3):
                self.rests_behind(form, ear, [0] * many)
                self.rests_behind(form, ear, [1] + [0] * many)

    def test_behind_words_broken_off_at_any_beat(self):
        for form, ear in itertools.product(((2, "none"), (3, "odd")), EARS[:6]):
            for word in range(1 << form[0]):
                row = drawn_out(levels_by_words(form, word), ear[0])
                for many in range(len(row) + 1):
                    self.rests_behind(form, ear, row[:many])
                    self.rests_behind(form, ear, [1] + row[:many] + [0])

    def test_behind_false_starts(self):
        for form, ear in itertools.product(((2, "none"), (2, "even"), (8, "odd")), EARS):
            for row in ([0, 1] * 30, [0, 1] * 30 + [0], [0, 0, 1] * 20, [0, 1, 1] * 20, [0] + [1] * ear[1] + [0]):
                for many in range(len(row) - 8, len(row) + 1):
                    self.rests_behind(form, ear, row[:many])

    def test_behind_any_rows(self):
        source = random.Random(71)
        for form, ear in itertools.product(FORMS, EARS):
            for count in range(6):
                row = [int(source.random() < source.choice((0.2, 0.5, 0.8))) for k in range(source.randint(1, 150))]
                self.rests_behind(form, ear, row)


class RoundLevels(unittest.TestCase):
    def test_told_rounds(self):
        self.assertEqual(round_levels((2, "none"), [1]), [0, 1, 0, 1])
        self.assertEqual(round_levels((2, "none"), [1, 2]), [0, 1, 0, 1, 0, 0, 1, 1])
        self.assertEqual(round_levels((2, "odd"), [1, 3]), [0, 1, 0, 0, 1, 0, 1, 1, 1, 1])

    def test_against_the_words(self):
        source = random.Random(72)
        for form in FORMS:
            for many in range(1, 13):
                words = [source.randrange(1 << form[0]) for number in range(many)]
                kept = list(words)
                told = round_levels(form, words)
                self.assertIs(type(told), list)
                self.assertEqual(told, sum([levels_by_words(form, word) for word in words], []))
                self.assertEqual(words, kept)

    def test_the_told_list_is_the_askers_own(self):
        told = round_levels((2, "none"), [1])
        told[0] = 9
        told.append(9)
        self.assertEqual(round_levels((2, "none"), [1]), [0, 1, 0, 1])


def begins_by_words(levels, size, place, many):
    """How many levels behind the place a listener begins words, going level by level, within so many levels."""
    told, ahead, left = [], 1, 0
    for k in range(many):
        level = levels[(place + k) % len(levels)]
        if left:
            left -= 1
        elif level == 0 and ahead == 1:
            told.append(k)
            left = size - 1
        ahead = level
    return told


def join_by_words(form, levels, place):
    """Point 21, from going on for long: by then each place at which a word can begin has had its turn twice."""
    size = size_by_words(form)
    begins = begins_by_words(levels, size, place, 2 * (len(levels) + 2) * (size + len(levels) // 4 + 2))
    true = [k for k in begins if (place + k) % size == 0]
    if true:
        # Behind a true start each next one is true and at once behind the word.
        assert begins[begins.index(true[0]):] == list(range(true[0], begins[-1] + 1, size))
        return ("in", true[0])
    late = [(place + k) % len(levels) for k in begins[len(begins) // 2:]]
    again = late.index(late[0], 1)
    ring = late[:again]
    assert late == (ring * len(late))[:len(late)]
    at = ring.index(min(ring))
    return ("never", ring[at:] + ring[:at])


class Joins(unittest.TestCase):
    def same(self, form, words):
        kept = list(words)
        told = joins(form, words)
        levels = sum([levels_by_words(form, word) for word in words], [])
        self.assertIs(type(told), list)
        self.assertEqual(told, [join_by_words(form, levels, place) for place in range(len(levels))])
        self.assertEqual(words, kept)
        return told

    def test_told_joins(self):
        self.assertEqual(joins((2, "none"), [1]), [("in", 0), ("never", [2]), ("never", [2]), ("in", 1)])
        self.assertEqual(joins((2, "none"), [3]), [("in", 0), ("in", 3), ("in", 2), ("in", 1)])
        self.assertEqual(joins((2, "none"), [0]), [("in", 0), ("in", 7), ("in", 6), ("in", 1)])
        self.assertEqual(joins((2, "none"), [1, 1])[:4], [("in", 0), ("never", [2, 6]), ("never", [2, 6]), ("in", 1)])
        self.assertEqual(joins((2, "none"), [2]), [("in", 0), ("in", 7), ("in", 2), ("in", 1)])

    def test_every_round_of_few_words(self):
        rings = {}
        for check in CHECKS:
            for many in (1, 2, 3):
                for words in itertools.product(range(4), repeat=many):
                    for kind, what in self.same((2, check), list(words)):
                        if kind == "never":
                            rings[len(what)] = rings.get(len(what), 0) + 1
        self.assertIn(1, rings)
        self.assertGreater(len(rings), 1)

    def test_one_word_said_again_and_again(self):
        for check in CHECKS:
            for word in range(32):
                self.same((5, check), [word])
            for word in (0, 1, 0x8000, 0xFFFF, 0x5555, 0xAAAA, 0x0F0F, 0xF00F):
                one = self.same((16, check), [word])
                # The same word three times has the same starts, but goes through three of them in a round.
                three = self.same((16, check), [word] * 3)
                self.assertEqual([kind for kind, what in three], [kind for kind, what in one * 3])
                self.assertEqual([what for kind, what in three if kind == "in"], [what for kind, what in one * 3 if kind == "in"])

    def test_rounds_of_one_to_twelve_words(self):
        source = random.Random(73)
        seen = {"in": 0, "never": 0}
        for check in CHECKS:
            for bits in (2, 3, 6):
                for many in range(1, 13):
                    words = [source.randrange(1 << bits) for number in range(many)]
                    for kind, what in self.same((bits, check), words):
                        seen[kind] += 1
                    self.same((bits, check), [words[0], words[-1]] * (many // 2) or [words[0]])
        self.assertGreater(min(seen.values()), 30)

    def test_the_longest_rounds(self):
        source = random.Random(74)
        for check in CHECKS:
            for words in ([source.randrange(1 << 16) for number in range(12)], [0x5555] * 12, [0x0F0F, 0x3333] * 6):
                self.same((16, check), words)

    def test_rings_of_several_places_are_told_in_order_and_the_least_first(self):
        # Within its word no next false start lies ahead of the last one, so a ring has the same place of each word.
        found = {}
        for many in (1, 2, 3, 4):
            for words in itertools.product(range(8), repeat=many):
                for kind, what in joins((3, "none"), list(words)):
                    if kind == "never":
                        self.assertIs(type(what), list)
                        self.assertEqual(what, [what[0] + 5 * k for k in range(many)])
                        self.assertTrue(0 < what[0] < 5)
                        found[many] = found.get(many, 0) + 1
        self.assertEqual(sorted(found), [1, 2, 3, 4])

    def test_the_told_lists_are_the_askers_own(self):
        told = joins((2, "none"), [1])
        self.assertIs(type(told[0]), tuple)
        told[1][1].append(9)
        self.assertEqual(told[2], ("never", [2]))
        told[0] = 9
        told.append(9)
        self.assertEqual(joins((2, "none"), [1]), [("in", 0), ("never", [2]), ("never", [2]), ("in", 1)])


if __name__ == "__main__":
    unittest.main()
