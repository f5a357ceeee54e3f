"""Points 12 and 13: ears, the beats they ask for, and what they hear, whole and beat by beat."""

import copy
import itertools
import random
import unittest

from by_words import CHECKS, drawn_out, hear_by_words

from barewire.beats import row_by, struck
from barewire.ears import Listener, asked_of, hear, is_ear, reach
from barewire.forms import levels_of, size_of
from barewire.lines import line_of

SMALL = [(bits, check) for bits in (2, 3, 5) for check in CHECKS]
EARS = [(3, 1, 0), (3, 2, 0), (4, 2, 1), (5, 2, 0), (5, 3, 1), (8, 4, 3), (16, 8, 1), (9, 3, 2), (9, 6, 2)]

NO_EARS = (
    (), (16,), (16, 8), (16, 8, 1, 0), (16, 8, 1, None), ((16, 8, 1),), ((16, 8, 1), (16, 8, 1), (16, 8, 1)),
    ((16,), 8, 1), (16, (8,), 1), (16, 8, (1,)), (((((16, 8, 1),),),),), (16, (8, (1,))),
    [], [16, 8, 1], [(16, 8, 1)], ([16], 8, 1), (16, [8], 1), (16, 8, [1]), [[16, 8, 1]],
    (True, 8, 1), (16, True, 0), (16, 8, True), (16, 8, False), (True, True, True), (True, True, False), (16, True, False),
    (None, 8, 1), (16, None, 1), (16, 8, None), ("16", 8, 1), (16, "8", 1), (16, 8, "1"), (16, 8, ""),
    True, False, None, 0, 16, -1, 10 ** 5000, "", "16 8 1", "abc", "(16, 8, 1)",
    (10 ** 5000, 8, 1), (16, 10 ** 5000, 1), (16, 8, 10 ** 5000), (-16, -8, -1), (16, -8, 1), (16, 8, -10 ** 5000),
)


def some_rows(source, over):
    """Rows of several sorts: evenly mixed, in long stretches, nearly all 1, nearly all 0."""
    yield [source.randint(0, 1) for k in range(400)]
    row = []
    while len(row) < 400:
        row += [source.randint(0, 1)] * source.randint(1, 2 * over)
    yield row
    yield [int(source.random() < 0.9) for k in range(300)]
    yield [int(source.random() < 0.1) for k in range(300)]


class Ears(unittest.TestCase):
    def test_each_bound(self):
        for over in range(-2, 70):
            for spot in range(-3, 70):
                for beside in range(-3, 7):
                    right = 3 <= over <= 64 and 0 <= beside <= 3 and beside < spot < over - beside
                    self.assertIs(is_ear((over, spot, beside)), right)

    def test_told_bounds(self):
        for ear in ((3, 1, 0), (3, 2, 0), (64, 1, 0), (64, 63, 0), (4, 2, 1), (64, 60, 3), (64, 4, 3), (8, 4, 3), (16, 8, 1)):
            self.assertIs(is_ear(ear), True)
        for ear in ((2, 1, 0), (65, 1, 0), (3, 0, 0), (3, 3, 0), (3, 1, 1), (3, 2, 1), (16, 1, 1), (16, 15, 1), (64, 61, 3),
                    (64, 3, 3), (7, 3, 3), (7, 4, 3), (16, 8, 4), (16, 8, -1), (64, 64, 0), (16, 0, -1)):
            self.assertIs(is_ear(ear), False)

    def test_other_things_are_none(self):
        for number, thing in enumerate(NO_EARS):
            with self.subTest(number):
                kept = copy.deepcopy(thing)
                self.assertIs(is_ear(thing), False)
                self.assertEqual(thing, kept)


class Asked(unittest.TestCase):
    def test_told_beats(self):
        self.assertEqual(asked_of((16, 8, 0), 0), [8])
        self.assertEqual(asked_of((16, 8, 1), 0), [7, 8, 9])
        self.assertEqual(asked_of((16, 8, 2), 0), [6, 7, 8, 9, 10])
        self.assertEqual(asked_of((16, 8, 3), 0), [5, 6, 7, 8, 9, 10, 11])
        self.assertEqual(asked_of((16, 8, 1), 1), [23, 24, 25])
        self.assertEqual(asked_of((16, 5, 1), 9), [148, 149, 150])
        self.assertEqual(asked_of((3, 1, 0), 18), [55])
        self.assertEqual(asked_of((64, 60, 3), 18), list(range(18 * 64 + 57, 18 * 64 + 64)))

    def test_many_ears_and_levels(self):
        for over, spot, beside, level in itertools.product((3, 8, 16, 64), range(64), range(4), (0, 1, 2, 17, 18)):
            if is_ear((over, spot, beside)):
                told = asked_of((over, spot, beside), level)
                self.assertEqual(told, [level * over + spot + by for by in range(-beside, beside + 1)])
                self.assertIs(type(told), list)

    def test_the_told_list_is_the_askers_own(self):
        told = asked_of((16, 8, 1), 1)
        told[0] = 0
        told.append(0)
        self.assertEqual(asked_of((16, 8, 1), 1), [23, 24, 25])

    def test_reach(self):
        self.assertEqual([reach((2, check), (3, 1, 0)) for check in CHECKS], [10, 13, 13])
        self.assertEqual([reach((8, check), (16, 8, 1)) for check in CHECKS], [153, 169, 169])
        self.assertEqual([reach((16, check), (64, 60, 3)) for check in CHECKS], [1151, 1215, 1215])

    def test_the_reach_is_the_last_asked_beat(self):
        for form in [(bits, check) for bits in range(2, 17) for check in CHECKS]:
            for ear in EARS:
                asked = [beat for k in range(size_of(form)) for beat in asked_of(ear, k)]
                self.assertEqual(reach(form, ear), max(asked))


class Hear(unittest.TestCase):
    def same_as_by_words(self, form, ear, row):
        kept = list(row)
        told = hear(form, ear, row)
        self.assertIs(type(told), tuple)
        self.assertTrue(told == hear_by_words(form, ear, row), (form, ear, row))
        self.assertTrue(row == kept)

    def test_the_empty_row_and_rests(self):
        for form in SMALL:
            for ear in EARS:
                self.assertEqual(hear(form, ear, []), ([], None))
                self.assertEqual(hear(form, ear, [1]), ([], None))
                self.assertEqual(hear(form, ear, [1] * 500), ([], None))
                self.assertEqual(hear(form, ear, [0]), ([], 0))
                self.assertEqual(hear(form, ear, [1, 1, 0]), ([], 2))

    def test_a_word_at_the_ears_own_beats(self):
        for form in SMALL:
            for ear in EARS:
                for word in range(1 << form[0]):
                    row = drawn_out(levels_of(form, word), ear[0])
                    self.assertEqual(hear(form, ear, row), ([(0, ("word", word))], None))
                    self.assertEqual(hear(form, ear, [1] * 7 + row), ([(7, ("word", word))], None))

    def test_words_at_once_behind_one_another_and_behind_rests(self):
        source = random.Random(31)
        for form in SMALL + [(16, check) for check in CHECKS]:
            for ear in EARS:
                row, due = [], []
                for rest in (0, 0, 1, 2, 0, 40, 0):
                    row += [1] * rest
                    word = source.randrange(1 << form[0])
                    due.append((len(row), ("word", word)))
                    row += drawn_out(levels_of(form, word), ear[0])
                self.assertEqual(hear(form, ear, row), (due, None))
                self.same_as_by_words(form, ear, row)

    def test_beats_some_off(self):
        # Ears of 16 beats a level, the rate a little off and the first beat anywhere.
        form, ear = (8, "even"), (16, 8, 1)
        speech = [(100, 0), (100 + 11 * 1630, 255), (100 + 11 * 1630 * 2 + 7, 0b1010101)]
        line = line_of(form, 1630, speech)
        for first in (0, 1, 50, 99, 100):
            row = row_by(line, (first, 100), 700)
            told, begun = hear(form, ear, row)
            self.assertEqual([heard[1] for heard in told], [("word", 0), ("word", 255), ("word", 0b1010101)])
            self.assertEqual([heard[0] for heard in told], [-((first - begin) // 100) for begin, word in speech])
            self.assertIsNone(begun)
            self.same_as_by_words(form, ear, row)

    def test_a_rate_far_off(self):
        for form in SMALL:
            for ear in EARS:
                for rate in (ear[0] // 2 + 1, ear[0] - 1, ear[0] + 1, 2 * ear[0]):
                    speech = [(k * 31 * rate, 1 << k) for k in range(form[0])]
                    self.same_as_by_words(form, ear, row_by(line_of(form, rate, speech), (0, 1), 400))

    def test_a_stretch_of_0(self):
        # All levels are taken as 0, the last one too: so the ear waits for a 1 and a 0 before it begins anew.
        for form in SMALL:
            for ear in EARS:
                why = "check" if form[1] == "odd" else "stop"
                whole = reach(form, ear) + 1
                self.assertEqual(hear(form, ear, [0] * (whole - 1)), ([], 0))
                for many in (whole, whole + 1, 3 * whole):
                    self.assertEqual(hear(form, ear, [0] * many), ([(0, ("broken", why))], None))
                row = [0] * (2 * whole) + [1, 0]
                self.assertEqual(hear(form, ear, row), ([(0, ("broken", why))], 2 * whole + 1))

    def test_broken_outcomes(self):
        ear = (5, 2, 1)
        for check, bad in (("even", 1), ("odd", 0)):
            row = drawn_out([0, 1, 1, bad, 1], 5)
            self.assertEqual(hear((2, check), ear, row), ([(0, ("broken", "check"))], None))
            row = drawn_out([0, 1, 1, 1 - bad, 0], 5)
            self.assertEqual(hear((2, check), ear, row), ([(0, ("broken", "stop"))], None))
            row = drawn_out([0, 1, 1, bad, 0], 5)
            self.assertEqual(hear((2, check), ear, row), ([(0, ("broken", "check"))], None))
        self.assertEqual(hear((2, "none"), ear, drawn_out([0, 1, 1, 0], 5)), ([(0, ("broken", "stop"))], None))

    def test_behind_a_broken_stop_a_0_begins_nothing(self):
        form, ear = (2, "none"), (5, 2, 1)
        row = drawn_out([0, 1, 1, 0], 5)
        self.assertEqual(hear(form, ear, row + [0] * 20), ([(0, ("broken", "stop"))], None))
        self.assertEqual(hear(form, ear, row + [0, 0, 1, 0]), ([(0, ("broken", "stop"))], 23))

    def test_the_level_taken_last_lies_ahead_not_the_beats_own(self):
        # Asked for the stop are beats 16, 17, 18 (of 3 times 5 and 2).
        form, ear = (2, "none"), (5, 2, 1)
        base = drawn_out([0, 1, 1], 5) + [1]
        self.assertEqual(hear(form, ear, base + [1, 1, 0]), ([(0, ("word", 3))], None))
        self.assertEqual(hear(form, ear, base + [1, 1, 0, 0]), ([(0, ("word", 3))], 19))
        self.assertEqual(hear(form, ear, base + [0, 0, 1]), ([(0, ("broken", "stop"))], None))
        self.assertEqual(hear(form, ear, base + [0, 0, 1, 0]), ([(0, ("broken", "stop"))], None))
        self.assertEqual(hear(form, ear, base + [0, 0, 1, 1, 0]), ([(0, ("broken", "stop"))], 20))

    def test_at_rest_from_the_next_beat_on(self):
        # The stop is asked as early as beat 3 * 16 + 2: the beats of it that are left do not begin or hold a word.
        form, ear = (2, "none"), (16, 2, 1)
        row = drawn_out([0, 0, 0], 16) + [1, 1, 1, 1, 0]
        self.assertEqual(hear(form, ear, row), ([(0, ("word", 0))], 52))

    def test_false_starts(self):
        form, ear = (2, "none"), (5, 2, 1)
        self.assertEqual(hear(form, ear, [0, 1, 1]), ([], 0))
        self.assertEqual(hear(form, ear, [0, 1, 1, 1]), ([], None))
        self.assertEqual(hear(form, ear, [0, 1, 0, 1]), ([], 2))
        self.assertEqual(hear(form, ear, [0, 0, 1, 1]), ([], None))
        self.assertEqual(hear(form, ear, [0, 1, 1, 0]), ([], 3))
        self.assertEqual(hear(form, ear, [0, 1, 0, 0]), ([], 0))
        self.assertEqual(hear(form, ear, [0, 1, 1, 1, 0]), ([], 4))
        self.assertEqual(hear(form, ear, [1, 0, 1, 1, 1, 1]), ([], None))

    def test_a_word_begun_within_a_false_start(self):
        form, ear = (2, "even"), (5, 2, 1)
        word = drawn_out(levels_of(form, 1), 5)
        for ahead in ([0, 1, 1], [0, 0, 1, 1], [0, 1, 1, 1], [0, 1, 1, 1, 1, 1]):
            row = ahead + word
            self.assertGreater(sum(row[1:4]), 1)
            self.assertEqual(hear(form, ear, row), ([(len(ahead), ("word", 1))], None))

    def test_false_starts_within_the_beats_of_one_another(self):
        form, ear = (2, "none"), (9, 7, 0)
        row = [0, 1, 0, 1, 0, 1, 1] + [1, 1, 1, 1] + [1] * 10
        self.assertEqual([hear(form, ear, row[:many])[1] for many in range(14)],
                         [None, 0, 0, 0, 0, 0, 0, 0, 2, 2, 4, 4, None, None])
        self.assertEqual(hear(form, ear, row), ([], None))
        row = [0, 1, 0, 1, 0, 1, 1, 1, 0, 1] + drawn_out([0, 1, 0, 1], 9)
        self.same_as_by_words(form, ear, row)
        self.assertEqual(hear(form, ear, row[:9]), ([], 2))
        self.assertEqual(hear(form, ear, row[:10]), ([], 4))
        self.assertEqual(hear((2, "none"), (3, 1, 0), [0, 1] * 50), ([], None))
        self.assertEqual(hear((2, "none"), (3, 1, 0), [0, 1] * 50 + [0]), ([], 100))

    def test_a_word_that_is_not_told_at_the_end(self):
        for form in SMALL:
            for ear in EARS:
                row = [1] * 3 + drawn_out(levels_of(form, 1), ear[0])
                last = 3 + reach(form, ear)
                for many in range(4, last + 1):
                    self.assertEqual(hear(form, ear, row[:many]), ([], 3))
                self.assertEqual(hear(form, ear, row[:last + 1]), ([(3, ("word", 1))], None))

    def test_struck_asked_beats(self):
        # As many strikes as there are beats beside are outweighed, one more is not.
        form = (3, "odd")
        for ear in ((9, 4, 0), (9, 4, 1), (9, 4, 2), (9, 4, 3)):
            row = [1] * 4 + drawn_out(levels_of(form, 5), 9)
            for level in range(size_of(form)):
                asked = [4 + beat for beat in asked_of(ear, level)]
                for strikes in itertools.combinations(asked, ear[2]):
                    self.assertEqual(hear(form, ear, struck(row, strikes))[0], [(4, ("word", 5))])
                for strikes in itertools.combinations(asked, ear[2] + 1):
                    told = hear(form, ear, struck(row, strikes))
                    self.assertNotEqual(told[0], [(4, ("word", 5))])
                    self.assertEqual(told, hear_by_words(form, ear, struck(row, strikes)))

    def test_every_short_row(self):
        for form, ear in (((2, "none"), (3, 1, 0)), ((2, "even"), (3, 2, 0)), ((2, "none"), (4, 2, 1))):
            for many in range(12):
                for row in itertools.product((0, 1), repeat=many):
                    self.same_as_by_words(form, ear, list(row))

    def test_rows_of_several_sorts(self):
        source = random.Random(32)
        for form in SMALL + [(16, check) for check in CHECKS]:
            for ear in EARS + [(64, 33, 3), (64, 63, 0), (64, 1, 0)]:
                for row in some_rows(source, ear[0]):
                    self.same_as_by_words(form, ear, row)

    def test_long_rows(self):
        source = random.Random(33)
        for row in ([source.randint(0, 1) for k in range(20000)], [0, 1] * 10000, [0] * 20000, [1, 0, 0] * 6666):
            for ear in ((3, 1, 0), (64, 33, 0), (64, 60, 3)):
                self.same_as_by_words((16, "even"), ear, row)

    def test_the_told_list_is_the_askers_own(self):
        form, ear = (2, "none"), (5, 2, 1)
        row = drawn_out([0, 1, 1, 1], 5)
        told = hear(form, ear, row)[0]
        self.assertIs(type(told), list)
        told.append(7)
        told[0] = 8
        self.assertEqual(hear(form, ear, row), ([(0, ("word", 3))], None))


class Listeners(unittest.TestCase):
    def beat_by_beat(self, form, ear, row):
        listener = Listener(form, ear)
        self.assertIs(listener.at_rest(), True)
        self.assertEqual(listener.heard(), [])
        before = []
        for many, level in enumerate(row, 1):
            told = listener.beat(level)
            heard, begun = hear_by_words(form, ear, row[:many])
            self.assertEqual(heard[len(before):], [] if told is None else [told])
            self.assertEqual(listener.heard(), heard)
            self.assertIs(listener.at_rest(), begun is None)
            before = heard
        self.assertEqual(hear(form, ear, row)[0], listener.heard())

    def test_the_same_as_hear_of_the_beginning_of_the_row(self):
        source = random.Random(34)
        for form in ((2, "none"), (2, "odd"), (3, "even")):
            for ear in EARS:
                for row in some_rows(source, ear[0]):
                    self.beat_by_beat(form, ear, row[:120])

    def test_words_and_false_starts(self):
        form, ear = (2, "even"), (5, 2, 1)
        row = [1, 0, 1] + drawn_out(levels_of(form, 1), 5) + drawn_out(levels_of(form, 2), 5) + [0, 1, 0, 1, 1, 1, 0]
        self.beat_by_beat(form, ear, row + [0] * 60)

    def test_what_is_told_at_a_beat(self):
        form, ear = (2, "none"), (3, 1, 0)
        listener = Listener(form, ear)
        told = [listener.beat(level) for level in [1, 0, 0, 0, 1, 1, 1, 0, 0, 0, 1, 1, 1, 0]]
        self.assertEqual(told, [None] * 11 + [(1, ("word", 1)), None, None])
        self.assertIs(type(told[11]), tuple)
        self.assertEqual(listener.heard(), [(1, ("word", 1))])
        self.assertIs(listener.at_rest(), False)

    def test_at_rest_behind_a_false_start(self):
        listener = Listener((2, "none"), (5, 2, 1))
        rests = []
        for level in [1, 0, 1, 1, 1, 0, 1, 0, 1, 1, 1]:
            self.assertIsNone(listener.beat(level))
            rests.append(listener.at_rest())
        self.assertEqual(rests, [True, False, False, False, True, False, False, False, False, False, True])

    def test_two_by_turns(self):
        source = random.Random(35)
        form, ear, other_form, other_ear = (2, "none"), (3, 1, 0), (3, "odd"), (5, 2, 1)
        one, other = Listener(form, ear), Listener(other_form, other_ear)
        rows = [source.randint(0, 1) for k in range(300)], [source.randint(0, 1) for k in range(300)]
        for many, (mine, yours) in enumerate(zip(*rows), 1):
            one.beat(mine)
            other.beat(yours)
            self.assertEqual(one.heard(), hear_by_words(form, ear, rows[0][:many])[0])
            self.assertEqual(other.heard(), hear_by_words(other_form, other_ear, rows[1][:many])[0])

    def test_two_of_one_form_and_ear(self):
        form, ear = (2, "none"), (3, 1, 0)
        one, other = Listener(form, ear), Listener(form, ear)
        for level in drawn_out(levels_of(form, 2), 3):
            one.beat(level)
            self.assertIs(other.at_rest(), True)
        self.assertEqual((one.heard(), other.heard()), ([(0, ("word", 2))], []))

    def test_a_told_list_that_the_asker_changes(self):
        form, ear = (2, "none"), (3, 1, 0)
        listener = Listener(form, ear)
        listener.heard().append(9)
        self.assertEqual(listener.heard(), [])
        for level in drawn_out(levels_of(form, 2), 3):
            listener.beat(level)
        told = listener.heard()
        self.assertIs(type(told), list)
        told[0] = 8
        told.append(9)
        self.assertEqual(listener.heard(), [(0, ("word", 2))])
        kept = listener.heard()
        for level in [1, *drawn_out(levels_of(form, 1), 3)]:
            listener.beat(level)
        self.assertEqual(kept, [(0, ("word", 2))])
        self.assertEqual(listener.heard(), [(0, ("word", 2)), (13, ("word", 1))])

    def test_asking_changes_nothing(self):
        form, ear = (2, "none"), (3, 1, 0)
        one, other = Listener(form, ear), Listener(form, ear)
        for level in [0, 1, 0, 0, 0, 1, 1, 0, 0, 0, 0, 1, 0, 1, 1, 1, 0, 0, 0] * 5:
            told = one.beat(level)
            for count in range(3):
                other.at_rest()
                other.heard()
            self.assertEqual(other.beat(level), told)
        self.assertEqual(one.heard(), other.heard())

    def test_its_methods_stand_in_the_class_itself(self):
        for name in ("beat", "at_rest", "heard"):
            self.assertIn(name, vars(Listener))


if __name__ == "__main__":
    unittest.main()
