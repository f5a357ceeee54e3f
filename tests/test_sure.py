"""Points 15 and 16: ticks to spare, sure rates and steps, and what goes wrong at rates that are not sure."""

import copy
import itertools
import random
import unittest

from by_words import (
    CHECKS, MOST, all_ears, due_by_words, gentle_by_words, hear_by_words, heard_row_by_words, right_by_words,
    size_by_words, spare_by_words, sure_by_words,
)

from barewire.hearing import is_gentle, is_right
from barewire.lines import line_of
from barewire.sure import is_sure, misheard, spare, sure_rates, sure_steps

FORMS = [(bits, check) for bits in (2, 3, 8, 16) for check in CHECKS]
EARS = [(3, 1, 0), (3, 2, 0), (4, 2, 1), (5, 3, 1), (6, 3, 2), (8, 4, 3), (16, 8, 1), (12, 4, 3), (12, 8, 3),
        (64, 1, 0), (64, 63, 0), (64, 32, 0), (64, 2, 1), (64, 62, 1), (64, 3, 2), (64, 61, 2), (64, 4, 3), (64, 60, 3)]


class Spare(unittest.TestCase):
    def test_told_ones(self):
        self.assertEqual(spare((2, "none"), (5, 2, 1), 10, 50), [(10, 10)] * 4)
        self.assertEqual(spare((2, "none"), (5, 2, 1), 10, 51), [(10, 11), (9, 12), (8, 13), (7, 14)])
        self.assertEqual(spare((2, "even"), (3, 1, 0), 1, 3), [(1, 1)] * 5)
        self.assertEqual(spare((2, "none"), (3, 1, 0), 1, 1), [(1, -1), (3, -3), (5, -5), (7, -7)])
        self.assertEqual(spare((2, "none"), (3, 2, 0), 1, 4), [(2, 1), (1, 2), (0, 3), (-1, 4)])

    def test_against_the_two_formulas(self):
        for form, ear in itertools.product(FORMS, EARS):
            for step, rate in itertools.product((1, 7, 10 ** 6, MOST), (1, 16, 10 ** 6 * ear[0], MOST)):
                told = spare(form, ear, step, rate)
                self.assertEqual(told, spare_by_words(form, ear, step, rate))
                self.assertEqual(len(told), size_by_words(form))

    def test_the_told_list_is_the_askers_own(self):
        told = spare((2, "none"), (5, 2, 1), 10, 50)
        self.assertIs(type(told), list)
        self.assertTrue(all(type(pair) is tuple for pair in told))
        told[0] = 9
        told.append(9)
        self.assertEqual(spare((2, "none"), (5, 2, 1), 10, 50), [(10, 10)] * 4)


class IsSure(unittest.TestCase):
    def test_told_ones(self):
        form, ear = (2, "none"), (5, 2, 1)
        self.assertIs(is_sure(form, ear, 10, 50), True)
        # The stop: late 4 * rate - 19 * 10, early 16 * 10 - 3 * rate.
        self.assertEqual([is_sure(form, ear, 10, rate) for rate in (47, 48, 53, 54)], [False, True, True, False])
        self.assertIs(is_sure(form, ear, 1, 1), False)
        self.assertIs(is_sure(form, ear, 1, MOST), False)
        self.assertIs(is_sure(form, ear, MOST, 1), False)
        self.assertIs(is_sure(form, ear, MOST, MOST), False)

    def test_against_the_formulas(self):
        for form, ear in itertools.product(FORMS, EARS):
            for step in (1, 3, 10):
                for rate in range(max(1, (ear[0] - 2) * step), (ear[0] + 2) * step):
                    self.assertIs(is_sure(form, ear, step, rate), sure_by_words(form, ear, step, rate))

    def test_no_ticks_to_spare_are_enough(self):
        found = 0
        for form, ear in itertools.product(FORMS, EARS):
            for step in (1, 2, 3, 6):
                for rate in range(step, 70 * step):
                    if min(min(pair) for pair in spare_by_words(form, ear, step, rate)) == 0:
                        found += 1
                        self.assertIs(is_sure(form, ear, step, rate), True)
        self.assertGreater(found, 100)


class SureRates(unittest.TestCase):
    def test_told_ones(self):
        self.assertEqual(sure_rates((2, "none"), (5, 2, 1), 10), (48, 53))
        self.assertEqual(sure_rates((2, "none"), (3, 1, 0), 1), (3, 3))
        self.assertEqual(sure_rates((8, "none"), (16, 8, 1), 1), (16, 16))
        self.assertEqual(sure_rates((8, "none"), (16, 8, 1), 100), (1540, 1677))

    def test_against_going_through_all_rates(self):
        for form, ear in itertools.product(FORMS, EARS):
            for step in (1, 2, 5):
                sure = [rate for rate in range(1, 2 * ear[0] * step) if sure_by_words(form, ear, step, rate)]
                self.assertEqual(sure_rates(form, ear, step), (sure[0], sure[-1]))
                self.assertEqual(sure, list(range(sure[0], sure[-1] + 1)))

    def test_every_small_ear(self):
        for form, ear in itertools.product(((2, "none"), (2, "odd"), (5, "even")), all_ears(3, 9)):
            for step in range(1, 8):
                sure = [rate for rate in range(1, 2 * ear[0] * step) if sure_by_words(form, ear, step, rate)]
                self.assertEqual(sure_rates(form, ear, step), (sure[0], sure[-1]))

    def test_the_ends_of_great_stretches(self):
        for form, ear in itertools.product(FORMS, EARS):
            for step in (10 ** 6, 999983, MOST // 128, MOST // 64 - 7):
                least, most = sure_rates(form, ear, step)
                self.assertEqual([sure_by_words(form, ear, step, rate) for rate in (least - 1, least, most)], [False, True, True])
                self.assertIs(sure_by_words(form, ear, step, most + 1), most == MOST)

    def test_the_bound_of_the_rates(self):
        for form, ear in itertools.product(FORMS, EARS):
            # The greatest step with a sure rate of at most 10 ** 12 is a little greater than this.
            step = MOST // ear[0]
            self.assertEqual(sure_rates(form, ear, step)[1], MOST)
            self.assertTrue(sure_by_words(form, ear, step, MOST))
            low, high = step, 2 * step
            while high - low > 1:
                middle = (low + high) // 2
                # By the least rate alone: from it on all rates are late enough.
                least = max(-(-((k * ear[0] + ear[1] + ear[2] + 1) * middle) // (k + 1)) for k in range(size_by_words(form)))
                low, high = (middle, high) if least <= MOST else (low, middle)
            self.assertEqual(sure_rates(form, ear, low)[1], MOST)
            self.assertIsNone(sure_rates(form, ear, high))
            self.assertIsNone(sure_rates(form, ear, MOST))


class SureSteps(unittest.TestCase):
    def test_told_ones(self):
        self.assertEqual(sure_steps((2, "none"), (5, 2, 1), 50), (10, 10))
        self.assertEqual(sure_steps((2, "none"), (5, 2, 1), 500), (94, 105))
        self.assertEqual(sure_steps((2, "none"), (3, 1, 0), 3), (1, 1))
        self.assertIsNone(sure_steps((2, "none"), (3, 1, 0), 2))
        self.assertIsNone(sure_steps((2, "none"), (3, 1, 0), 1))
        self.assertIsNone(sure_steps((8, "even"), (16, 8, 1), 15))
        self.assertIsNone(sure_steps((8, "even"), (16, 8, 1), 17))

    def test_against_going_through_all_steps(self):
        seen = {True: 0, False: 0}
        for form, ear in itertools.product(FORMS, EARS):
            for rate in (1, 2, 3, 4, 5, 7, 9, 16, 31, 63, 64, 65, 127, 130, 200):
                sure = [step for step in range(1, rate + 1) if sure_by_words(form, ear, step, rate)]
                seen[bool(sure)] += 1
                self.assertEqual(sure_steps(form, ear, rate), (sure[0], sure[-1]) if sure else None)
                self.assertEqual(sure, list(range(sure[0], sure[-1] + 1)) if sure else [])
        self.assertGreater(min(seen.values()), 500)

    def test_every_small_ear(self):
        for form, ear in itertools.product(((2, "none"), (2, "odd"), (5, "even")), all_ears(3, 8)):
            for rate in range(1, 50):
                sure = [step for step in range(1, rate + 1) if sure_by_words(form, ear, step, rate)]
                self.assertEqual(sure_steps(form, ear, rate), (sure[0], sure[-1]) if sure else None)

    def test_the_ends_of_great_stretches(self):
        for form, ear in itertools.product(FORMS, EARS):
            for rate in (10 ** 6, 10 ** 9 + 7, MOST - 1, MOST):
                least, most = sure_steps(form, ear, rate)
                told = [sure_by_words(form, ear, step, rate) for step in (least - 1, least, most, most + 1)]
                self.assertEqual(told, [False, True, True, False])

    def test_the_least_step(self):
        for form, ear in itertools.product(FORMS, EARS):
            self.assertEqual(sure_steps(form, ear, ear[0])[0], 1)
            self.assertIsNone(sure_steps(form, ear, 1))

    def test_rates_and_steps_tell_the_same(self):
        source = random.Random(51)
        for count in range(3000):
            form = (source.randint(2, 16), source.choice(CHECKS))
            ear = source.choice(EARS)
            step = source.choice((1, 3, source.randint(1, 1000), source.randint(1, MOST // 70)))
            rate = ear[0] * step + source.randint(-step, step)
            rates, steps = sure_rates(form, ear, step), sure_steps(form, ear, rate)
            sure = is_sure(form, ear, step, rate)
            self.assertIs(rates is not None and rates[0] <= rate <= rates[1], sure)
            self.assertIs(steps is not None and steps[0] <= step <= steps[1], sure)


class Misheard(unittest.TestCase):
    def is_so(self, form, ear, step, rate):
        """What is told for a rate that is not sure holds, by the program and by the words."""
        told = misheard(form, ear, step, rate)
        self.assertIs(type(told), tuple)
        speech, first, strikes = told
        kept = copy.deepcopy(told)
        self.assertIs(type(speech), list)
        self.assertIs(type(strikes), list)
        line_of(form, rate, speech)
        self.assertGreater(len(speech), 0)
        self.assertTrue(0 <= first <= speech[0][0])
        self.assertEqual(strikes, sorted(set(strikes)))
        beats = (first, step)
        self.assertTrue(gentle_by_words(form, ear, speech, beats, strikes))
        self.assertTrue(is_gentle(rate, form, ear, speech, beats, strikes))
        row = heard_row_by_words(rate, form, ear, speech, beats, strikes)
        self.assertLessEqual(len(row), 20000)
        self.assertNotEqual(hear_by_words(form, ear, row)[0], due_by_words(speech, beats))
        self.assertFalse(is_right(rate, form, ear, speech, beats, strikes))
        self.assertEqual(misheard(form, ear, step, rate), kept)
        # The lists are the asker's own.
        speech.append((9, 9))
        strikes.append(9)
        self.assertEqual(misheard(form, ear, step, rate), kept)

    def by_rate(self, form, ear, step, rate):
        if sure_by_words(form, ear, step, rate):
            self.assertIsNone(misheard(form, ear, step, rate))
            return 1
        self.is_so(form, ear, step, rate)
        return 0

    def test_all_rates_of_small_ears(self):
        for form, ear in itertools.product(((2, "none"), (2, "even"), (3, "odd")), all_ears(3, 8)):
            for step in (1, 2, 3):
                sure = sum(self.by_rate(form, ear, step, rate) for rate in range(1, (ear[0] + 2) * step))
                self.assertGreater(sure, 0)

    def test_around_the_stretch_for_all_forms_and_ears_at_the_bounds(self):
        for form, ear in itertools.product(FORMS, EARS):
            for step in (1, 7, 100):
                least, most = sure_rates(form, ear, step)
                self.assertEqual([self.by_rate(form, ear, step, rate) for rate in (least, most)], [1, 1])
                for rate in (least - 1, most + 1):
                    if rate:
                        self.assertEqual(self.by_rate(form, ear, step, rate), 0)

    def test_a_tick_beyond_at_great_steps(self):
        for form, ear in itertools.product(FORMS, EARS):
            step = MOST // 100
            least, most = sure_rates(form, ear, step)
            self.assertEqual([self.by_rate(form, ear, step, rate) for rate in (least - 1, least, most, most + 1)], [0, 1, 1, 0])

    def test_far_off(self):
        for form, ear in itertools.product(FORMS, EARS):
            for step in (1, 10):
                for rate in (1, 2, step, step + 1, 2 * step, 3 * step - 1, 100 * step, 450 * step + 1, 900 * step - 1, 900 * step):
                    self.by_rate(form, ear, step, rate)

    def test_rates_below_the_step(self):
        for form, ear in itertools.product(FORMS, EARS[:9]):
            for step in (2, 3, 50, MOST):
                for rate in {1, step // 2, step - 1}:
                    self.assertEqual(self.by_rate(form, ear, step, rate), 0)

    def test_the_greatest_rate(self):
        for form, ear in itertools.product(FORMS, EARS):
            for step in (MOST // 900 + 1, MOST // 100, MOST // 3, MOST):
                self.by_rate(form, ear, step, MOST)

    def test_every_over_and_spot(self):
        source = random.Random(52)
        for ear in all_ears(3, 64)[::5]:
            form = (source.randint(2, 16), source.choice(CHECKS))
            step = source.choice((1, 2, 9))
            least, most = sure_rates(form, ear, step)
            for rate in (least - 1, most + 1, source.randint(1, 64 * step), source.randint(1, 900 * step)):
                if rate:
                    self.by_rate(form, ear, step, rate)

    def test_none_for_each_sure_rate(self):
        for form, ear in itertools.product(FORMS, EARS):
            for step in (1, 4, 25):
                least, most = sure_rates(form, ear, step)
                for rate in range(least, most + 1):
                    self.assertIsNone(misheard(form, ear, step, rate))

    def test_a_rate_that_is_right_without_strikes_is_misheard_by_strikes(self):
        # With five asked beats one that lies amiss does no harm by itself: strikes are needed.
        form, ear, step = (2, "none"), (9, 3, 2), 1
        rate = sure_rates(form, ear, step)[1] + 1
        speech, first, strikes = misheard(form, ear, step, rate)
        self.assertEqual(len(strikes), 2)
        self.assertTrue(right_by_words(rate, form, ear, speech, (first, step), []))
        self.is_so(form, ear, step, rate)


if __name__ == "__main__":
    unittest.main()
