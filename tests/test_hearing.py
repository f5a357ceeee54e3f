"""Point 14: due hearings, gentle strikes, the row from which a speech is heard right or not."""

import copy
import itertools
import random
import unittest

from by_words import (
    CHECKS, LAST, MOST, all_ears, due_by_words, gentle_by_words, hear_by_words, heard_row_by_words, reach_by_words,
    right_by_words, size_by_words, some_gentle, some_speech, spare_by_words, sure_by_words,
)

from barewire.hearing import due_of, heard_row, is_gentle, is_right

FORM = (2, "none")
FORMS = [(bits, check) for bits in (2, 3, 8) for check in CHECKS]
EARS = [(3, 1, 0), (3, 2, 0), (4, 2, 1), (5, 3, 1), (7, 3, 2), (8, 4, 3), (16, 8, 1), (12, 4, 3), (12, 8, 3)]


def sure_ends(form, ear, step):
    """The least and the most sure rate, by going from over times the step, which is sure, to both sides."""
    least = most = ear[0] * step
    while least > 1 and sure_by_words(form, ear, step, least - 1):
        least -= 1
    while sure_by_words(form, ear, step, most + 1):
        most += 1
    return least, most


class Due(unittest.TestCase):
    def test_told_ones(self):
        speech = [(10, 3), (50, 0), (90, 1)]
        self.assertEqual(due_of(10, FORM, [], (0, 5)), [])
        self.assertEqual(due_of(10, FORM, speech, (10, 5)), [(0, ("word", 3)), (8, ("word", 0)), (16, ("word", 1))])
        self.assertEqual(due_of(10, FORM, speech, (8, 5)), [(1, ("word", 3)), (9, ("word", 0)), (17, ("word", 1))])
        self.assertEqual(due_of(10, FORM, speech, (9, 7)), [(1, ("word", 3)), (6, ("word", 0)), (12, ("word", 1))])
        self.assertEqual(due_of(10, FORM, speech, (0, 1)), [(10, ("word", 3)), (50, ("word", 0)), (90, ("word", 1))])
        self.assertEqual(due_of(10, FORM, speech, (0, 1000)), [(1, ("word", 3)), (1, ("word", 0)), (1, ("word", 1))])

    def test_against_going_from_beat_to_beat(self):
        source = random.Random(41)
        for form, rate, step in itertools.product(FORMS, (1, 5, 16), (1, 2, 7, 40)):
            speech = [(begin + 50, word) for begin, word in some_speech(source, form, rate, 5, (0, 0, 1, 2, 33))]
            begin = speech[0][0]
            for first in (begin, begin - 1, begin - step // 2, max(0, begin - step), max(0, begin - step - 1), 1, 0):
                self.assertEqual(due_of(rate, form, speech, (first, step)), due_by_words(speech, (first, step)))

    def test_great_numbers(self):
        speech = [(LAST - 4 * MOST, 3), (LAST, 0)]
        self.assertEqual(due_of(MOST, FORM, speech, (LAST - 4 * MOST, 1)), [(0, ("word", 3)), (4 * MOST, ("word", 0))])
        self.assertEqual(due_of(MOST, FORM, speech, (0, MOST)), [(10 ** 6 - 4, ("word", 3)), (10 ** 6, ("word", 0))])
        self.assertEqual(due_of(MOST, FORM, speech, (1, MOST)), [(10 ** 6 - 4, ("word", 3)), (10 ** 6, ("word", 0))])
        self.assertEqual(due_of(MOST, FORM, speech, (0, 1)), [(LAST - 4 * MOST, ("word", 3)), (LAST, ("word", 0))])

    def test_the_told_list_is_new_and_the_speech_stays(self):
        speech = [(10, 3), (50, 0)]
        told = due_of(10, FORM, speech, (0, 5))
        self.assertIs(type(told), list)
        self.assertTrue(all(type(pair) is tuple and type(pair[1]) is tuple for pair in told))
        told[0] = 9
        told.append(9)
        self.assertEqual(due_of(10, FORM, speech, (0, 5)), [(2, ("word", 3)), (10, ("word", 0))])
        self.assertEqual(speech, [(10, 3), (50, 0)])


class Gentle(unittest.TestCase):
    def same(self, rate, form, ear, speech, beats, strikes):
        kept = (list(speech), list(strikes))
        told = is_gentle(rate, form, ear, speech, beats, strikes)
        self.assertIs(told, gentle_by_words(form, ear, speech, beats, strikes))
        self.assertEqual((speech, strikes), kept)
        return told

    def test_told_strikes(self):
        # Asked are, behind beat 3: 1, 2, 3 and 6, 7, 8 and 11, 12, 13 and 16, 17, 18.
        speech, beats, ear = [(30, 1)], (0, 10), (5, 2, 1)
        for strikes in ([], [4], [5], [6], [4, 9], [6, 9, 16, 21], [21, 4, 10]):
            self.assertIs(is_gentle(50, FORM, ear, speech, beats, strikes), True)
        for strikes in ([3], [7], [8], [12], [22], [23], [4, 5], [4, 6], [4, 5, 6], [4, 9, 12], [20, 21], [0], [20000], [LAST], [4, LAST]):
            self.assertIs(is_gentle(50, FORM, ear, speech, beats, strikes), False)

    def test_no_strikes(self):
        for form, ear in itertools.product(FORMS, EARS):
            for speech in ([], [(7, 1)], [(7, 1), (700, 2)]):
                self.assertIs(is_gentle(16, form, ear, speech, (0, 1), []), True)

    def test_without_words_no_strike_is_gentle(self):
        for ear in EARS:
            for beat in (0, 1, 5, 20000):
                self.assertIs(is_gentle(16, FORM, ear, [], (0, 1), [beat]), False)

    def test_with_none_beside_no_strike_is_gentle(self):
        for beat in range(30):
            self.assertIs(is_gentle(4, FORM, (4, 2, 0), [(0, 1)], (0, 1), [beat]), False)

    def test_each_beat_alone(self):
        for ear in EARS:
            for form, first in itertools.product(((2, "none"), (3, "odd")), (50, 48, 1, 0)):
                speech = [(50, 1), (50 + size_by_words(form) * ear[0] * 3, 2)]
                for beat in range(0, 3 * reach_by_words(form, ear)):
                    self.same(3 * ear[0], form, ear, speech, (first, 3), [beat])

    def test_as_many_as_beside_and_one_more_at_each_level(self):
        for ear in ((8, 4, 0), (8, 4, 1), (8, 4, 2), (8, 4, 3), (9, 4, 3), (9, 5, 3)):
            for form in ((2, "none"), (2, "even")):
                speech, beats = [(5, 2), (5 + 8 * 6 * 2, 1)], (4, 2)
                for b, right in due_by_words(speech, beats):
                    for k in range(size_by_words(form)):
                        asked = [b + k * ear[0] + ear[1] + by for by in range(-ear[2], ear[2] + 1)]
                        for strikes in itertools.combinations(asked, ear[2]):
                            self.assertIs(self.same(16, form, ear, speech, beats, list(strikes)), True)
                        for strikes in itertools.combinations(asked, ear[2] + 1):
                            self.assertIs(self.same(16, form, ear, speech, beats, list(strikes)), False)
                        # A beat beside the asked ones is no asked one of another level, over being so great.
                        for beat in (asked[0] - 1, asked[-1] + 1):
                            self.assertIs(self.same(16, form, ear, speech, beats, [beat]), False)

    def test_as_many_as_beside_at_all_levels_at_once(self):
        source = random.Random(42)
        for form, ear in itertools.product(FORMS, EARS):
            rate = ear[0] * 2
            speech = some_speech(source, form, rate, 4, (0, 1, 30))
            beats = (0, 2)
            due = due_by_words(speech, beats)
            full = sorted(b + k * ear[0] + ear[1] + by for b, right in due for k in range(size_by_words(form))
                          for by in source.sample(range(-ear[2], ear[2] + 1), ear[2]))
            self.assertIs(self.same(rate, form, ear, speech, beats, full), True)
            b, k = due[source.randrange(4)][0], source.randrange(size_by_words(form))
            more = [b + k * ear[0] + ear[1] + by for by in range(-ear[2], ear[2] + 1)]
            left = [beat for beat in more if beat not in full]
            self.assertIs(self.same(rate, form, ear, speech, beats, full + [left[0]]), False)

    def test_the_same_beat_asked_of_two_words(self):
        # The rate is far below the steps that the ear takes a level to have, so a beat is asked of both words.
        form, ear = (2, "none"), (5, 2, 1)
        speech, beats = [(0, 1), (4, 2)], (0, 1)
        # Of the first word 1, 2, 3, 6, 7, 8 and so on; of the second one 5, 6, 7, 10, 11, 12 and so on.
        for beat in (6, 7, 11, 12, 16, 17):
            self.assertIs(is_gentle(1, form, ear, speech, beats, [beat]), True)
        for strikes in ([6, 7], [6, 8], [5, 6], [5, 7], [7, 8], [11, 12], [10, 11], [12, 13]):
            self.assertIs(is_gentle(1, form, ear, speech, beats, strikes), False)
        for strikes in ([5, 8], [10, 13], [1, 5, 8], [3, 6], [3, 7, 11]):
            self.assertIs(is_gentle(1, form, ear, speech, beats, strikes), True)
        # Both words are due at one beat.
        self.assertIs(is_gentle(1, form, ear, speech, (0, 100), [2]), True)
        self.assertIs(is_gentle(1, form, ear, [(1, 1), (5, 2)], (0, 100), [2]), True)
        self.assertIs(is_gentle(1, form, ear, [(1, 1), (5, 2)], (0, 100), [2, 3]), False)

    def test_against_strike_by_strike(self):
        source = random.Random(43)
        seen = {True: 0, False: 0}
        for count in range(4000):
            form, ear = source.choice(FORMS), source.choice(EARS)
            step, rate = source.randint(1, 5), source.randint(1, 30)
            speech = [(begin + 9, word) for begin, word in some_speech(source, form, rate, source.randint(1, 3), (0, 0, 1, 9))]
            beats = (source.randint(0, 9), step)
            strikes = some_gentle(source, form, ear, due_by_words(speech, beats)[:source.randint(0, 1)])
            strikes += [beat for beat in source.sample(range(60), source.randint(0, 2)) if beat not in strikes]
            seen[self.same(rate, form, ear, speech, beats, sorted(strikes))] += 1
        self.assertGreater(min(seen.values()), 400)


class HeardRow(unittest.TestCase):
    def same(self, rate, form, ear, speech, beats, strikes):
        kept = (list(speech), list(strikes))
        told = heard_row(rate, form, ear, speech, beats, strikes)
        self.assertIs(type(told), list)
        self.assertTrue(told == heard_row_by_words(rate, form, ear, speech, beats, strikes))
        self.assertEqual((speech, strikes), kept)
        return told

    def test_the_number_of_beats(self):
        # The word ends at 7 + 4 * 10; the reach is 3 * 3 + 1.
        for first, step, end in ((7, 10, 4), (6, 10, 5), (7, 1, 40), (0, 1, 47), (0, 47, 1), (0, 46, 2), (0, 100, 1)):
            self.assertEqual(len(heard_row(10, FORM, (3, 1, 0), [(7, 0)], (first, step), [])), end + 10 + 2)
        self.assertEqual(len(heard_row(10, FORM, (5, 2, 1), [(7, 0)], (7, 10), [])), 4 + 18 + 2)
        self.assertEqual(len(heard_row(10, FORM, (5, 2, 1), [(7, 0), (47, 0)], (7, 10), [])), 8 + 18 + 2)
        self.assertEqual(len(heard_row(10, (2, "odd"), (5, 2, 1), [(7, 0)], (7, 10), [])), 5 + 23 + 2)

    def test_told_rows(self):
        row = [1, 0, 1, 0, 1] + [1] * 12
        self.assertEqual(heard_row(10, FORM, (3, 1, 0), [(7, 1)], (0, 10), []), row)
        self.assertEqual(heard_row(10, FORM, (3, 1, 0), [(7, 1)], (0, 10), [0, 2]), [0, 0, 0, 0, 1] + [1] * 12)
        self.assertEqual(heard_row(10, FORM, (3, 1, 0), [(7, 1)], (0, 10), [17, 18, 20000, LAST]), row)
        self.assertEqual(heard_row(10, FORM, (3, 1, 0), [(7, 1)], (0, 10), [16, 17]), row[:-1] + [0])

    def test_against_the_words(self):
        source = random.Random(44)
        for form, ear in itertools.product(FORMS, EARS):
            for step in (1, 3, 10):
                rate = max(1, ear[0] * step + source.choice((-3, -1, 0, 1, 2)))
                speech = [(begin + 40, word) for begin, word in some_speech(source, form, rate, 3, (0, 1, 50))]
                for first in (speech[0][0], speech[0][0] - 1, 0):
                    row = self.same(rate, form, ear, speech, (first, step), [])
                    strikes = sorted(source.sample(range(len(row) + 40), 5))
                    self.same(rate, form, ear, speech, (first, step), strikes)
                    self.same(rate, form, ear, speech, (first, step), [0, len(row) - 1, len(row), len(row) + 1, 20000])

    def test_great_numbers(self):
        ear = (16, 8, 1)
        for form in ((2, "none"), (16, "odd")):
            size = size_by_words(form)
            for begin in (LAST, LAST - 1):
                row = heard_row(16 * MOST // 16, form, ear, [(begin, 2)], (begin, MOST // 16), [])
                self.assertEqual(len(row), size * 16 + reach_by_words(form, ear) + 2)
                self.assertEqual(row[:64], [0] * 32 + [1] * 16 + ([1] * 16 if size == 4 else [0] * 16))
        row = heard_row(MOST, FORM, ear, [(LAST, 0)], (LAST - MOST, MOST), [])
        self.assertEqual(row[:6], [1, 0, 0, 0, 1, 1])

    def test_as_many_levels_as_may_be(self):
        form, ear = (16, "even"), (64, 60, 3)
        rate = (20000 - 2 - reach_by_words(form, ear)) // 19
        row = self.same(rate, form, ear, [(5, 0xF0F0)], (5, 1), [7, 19999])
        self.assertLessEqual(len(row), 20000)
        self.assertGreater(len(row), 19900)

    def test_the_told_row_is_the_askers_own(self):
        told = heard_row(10, FORM, (3, 1, 0), [(7, 1)], (0, 10), [])
        whole = list(told)
        told[0] = 9
        told.append(9)
        self.assertEqual(heard_row(10, FORM, (3, 1, 0), [(7, 1)], (0, 10), []), whole)


class Right(unittest.TestCase):
    def same(self, rate, form, ear, speech, beats, strikes):
        kept = copy.deepcopy((speech, strikes))
        told = is_right(rate, form, ear, speech, beats, strikes)
        self.assertIs(told, right_by_words(rate, form, ear, speech, beats, strikes))
        self.assertEqual((speech, strikes), kept)
        return told

    def test_told_ones(self):
        ear = (5, 2, 1)
        self.assertIs(is_right(50, FORM, ear, [(30, 1)], (0, 10), []), True)
        self.assertIs(is_right(50, FORM, ear, [(30, 1)], (0, 10), [4, 10, 15, 20]), True)
        self.assertIs(is_right(50, FORM, ear, [(30, 1)], (0, 10), [4, 5]), False)
        # No gentle strike, and it begins a word of its own.
        self.assertIs(is_right(50, FORM, ear, [(30, 1)], (0, 10), [24]), True)
        self.assertIs(is_right(50, FORM, ear, [(30, 1)], (0, 10), [24, 25, 26]), False)
        self.assertIs(is_right(20, FORM, ear, [(30, 1)], (0, 10), []), False)
        self.assertIs(is_right(900, FORM, ear, [(30, 1)], (0, 10), []), False)
        # At this rate no level of the word 0 is seen to be wrong but the stop, which comes too late.
        self.assertIs(is_right(60, FORM, ear, [(30, 0)], (0, 10), []), False)

    def test_a_word_more_than_due_is_not_right(self):
        # The word is heard as it is due, but the rest of its stop holds another 0.
        ear = (5, 2, 0)
        row_strikes = [20, 22]
        self.assertIs(is_right(5, FORM, ear, [(0, 3)], (0, 1), []), True)
        told = hear_by_words(FORM, ear, heard_row_by_words(5, FORM, ear, [(0, 3)], (0, 1), row_strikes))[0]
        self.assertEqual(len(told), 2)
        self.assertIs(is_right(5, FORM, ear, [(0, 3)], (0, 1), row_strikes), False)

    def test_a_speech_without_words(self):
        self.assertIs(is_right(5, FORM, (5, 2, 0), [], (0, 1), []), True)

    def test_at_sure_rates_and_a_tick_beyond_and_far_off(self):
        source = random.Random(45)
        seen = {True: 0, False: 0}
        for form, ear, step in itertools.product(FORMS, EARS, (1, 3, 10)):
            least, most = sure_ends(form, ear, step)
            rates = (least, most, (least + most) // 2, least - 1, most + 1, 1, step, 2 * most, 40 * step)
            for rate in [rate for rate in rates if rate > 0]:
                speech = [(begin + 35, word) for begin, word in some_speech(source, form, rate, 3, (0, 0, 1, 50))]
                begin = speech[0][0]
                beats = (source.choice((begin, begin - 1, begin - 2, begin - step + 1, 0)), step)
                for strikes in ([], some_gentle(source, form, ear, due_by_words(speech, beats))):
                    right = self.same(rate, form, ear, speech, beats, strikes)
                    seen[right] += 1
                    if least <= rate <= most:
                        self.assertIs(right, True)
        self.assertGreater(min(seen.values()), 300)

    def test_any_strikes(self):
        source = random.Random(46)
        seen = {True: 0, False: 0}
        for count in range(2500):
            form, ear = source.choice(FORMS[:6]), source.choice(EARS)
            speech = some_speech(source, form, ear[0], source.randint(1, 3), (0, 1, 9))
            many = speech[-1][0] + 60
            strikes = sorted(source.sample(range(many), source.randint(0, 3)))
            seen[self.same(ear[0], form, ear, speech, (0, 1), strikes)] += 1
        self.assertGreater(min(seen.values()), 200)

    def test_great_numbers(self):
        source = random.Random(47)
        for form, ear in itertools.product(FORMS, EARS):
            step = MOST // 40
            sure = [rate for rate in (ear[0] * step, ear[0] * step + 5, ear[0] * step - 5) if sure_by_words(form, ear, step, rate)]
            for rate in sure:
                speech = [(begin + LAST // 2, word) for begin, word in some_speech(source, form, rate, 3, (0, 1, step))]
                for first in (speech[0][0], speech[0][0] - 1, speech[0][0] - step + 1, speech[0][0] - 3 * step):
                    strikes = some_gentle(source, form, ear, due_of(rate, form, speech, (first, step)))
                    self.assertIs(is_right(rate, form, ear, speech, (first, step), strikes), True)


class SureIsRight(unittest.TestCase):
    """Of point 4: at a sure rate every speech is heard right."""

    def test_every_word_phase_and_rest_without_strikes(self):
        for form, ear in itertools.product(((2, "none"), (2, "odd")), all_ears(3, 5, (0,))):
            for step in (1, 2, 3):
                least, most = sure_ends(form, ear, step)
                for rate in {least, ear[0] * step, most}:
                    self.every_speech(form, ear, step, rate)

    def every_speech(self, form, ear, step, rate):
        words = range(1 << form[0])
        for phase in range(step + 1):
            for one, other, rest in itertools.product(words, words, range(step + 1)):
                speech = [(step + 1, one), (step + 1 + size_by_words(form) * rate + rest, other)]
                self.assertTrue(is_right(rate, form, ear, speech, (phase, step), []))

    def test_every_gentle_strike_of_a_word(self):
        for ear in ((4, 2, 1), (5, 2, 1), (5, 3, 1)):
            for step, form in ((1, (2, "none")), (2, (2, "none")), (2, (2, "even"))):
                least, most = sure_ends(form, ear, step)
                for rate in {least, most}:
                    for phase in range(step + 1):
                        self.every_gentle_strike(form, ear, step, rate, phase)

    def every_gentle_strike(self, form, ear, step, rate, phase):
        beats = (phase, step)
        b = due_by_words([(step, 0)], beats)[0][0]
        asked = [[None] + [b + k * ear[0] + ear[1] + by for by in (-1, 0, 1)] for k in range(size_by_words(form))]
        for choice in itertools.product(*asked):
            strikes = [beat for beat in choice if beat is not None]
            for word in (0, 2, 3):
                self.assertTrue(is_gentle(rate, form, ear, [(step, word)], beats, strikes))
                self.assertTrue(is_right(rate, form, ear, [(step, word)], beats, strikes))

    def test_some_of_all_forms_and_ears(self):
        source = random.Random(48)
        ears = all_ears(3, 64)
        for count in range(1500):
            form = (source.randint(2, 16), source.choice(CHECKS))
            ear, step = source.choice(ears), source.choice((1, 2, 5, 100, 10 ** 6))
            spare = spare_by_words(form, ear, step, ear[0] * step)
            # How far the rate may go off, by the ticks that over times the step has to spare.
            down = min(late // (k + 1) for k, (early, late) in enumerate(spare))
            up = min(early // k for k, (early, late) in enumerate(spare) if k)
            rate = ear[0] * step + source.choice((-down, 0, up))
            self.assertTrue(sure_by_words(form, ear, step, rate))
            speech = [(begin + step, word) for begin, word in
                      some_speech(source, form, rate, 3, (0, 0, 1, step, source.randrange(5 * step)))]
            beats = (source.randint(0, step), step)
            strikes = some_gentle(source, form, ear, due_by_words(speech, beats))
            self.assertTrue(is_gentle(rate, form, ear, speech, beats, strikes))
            self.assertTrue(is_right(rate, form, ear, speech, beats, strikes))


if __name__ == "__main__":
    unittest.main()
