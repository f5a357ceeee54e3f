"""Point 22: numbers, forms, ears, rows and speeches written as texts and read back."""

import itertools
import random
import unittest

from by_words import CHECKS, LAST, MOST, all_ears, size_by_words, some_speech

from barewire.errors import NoText, WireError
from barewire.texts import (
    read_ear, read_form, read_row, read_speech, show_ear, show_form, show_row, show_speech,
)

NO_TEXTS = (None, True, False, 0, 1, 8, -1, 10 ** 5000, [], ["-"], ["8 none"], ("8 none",), (), ("-",), (8, "none"), (16, 8, 1))
# What is no number, where one should stand.
NO_NUMBERS = ("", "00", "01", "007", "+1", "-1", "-0", "x", "1x", "x1", "1.0", "1e1", "1_0", "0x1", "one", "1,0", " 1", "1 ", "\n1", "1\n",
              "10000000000000000000", "99999999999999999999", "00000000000000000001", "9" * 4000, "0" * 4000, "-", "=", ";")


class Texts(unittest.TestCase):
    def is_refused(self, read, text, *more):
        with self.assertRaises(WireError) as caught:
            read(text, *more)
        self.assertIs(type(caught.exception), NoText)


class Forms(Texts):
    def test_each_form_there_and_back(self):
        for bits, check in itertools.product(range(2, 17), CHECKS):
            text = show_form((bits, check))
            self.assertEqual(text, f"{bits} {check}")
            self.assertEqual(read_form(text), (bits, check))
            self.assertIs(type(read_form(text)), tuple)

    def test_out_of_the_bounds(self):
        for bits in (0, 1, 17, 18, 100, 10 ** 18):
            for check in CHECKS:
                self.is_refused(read_form, f"{bits} {check}")

    def test_other_texts(self):
        for text in ("", " ", "8", "none", "8none", "8 ", " 8 none", "8 none ", "8  none", "8 none\n", "\n8 none", "8\nnone",
                     "8 None", "8 NONE", "8 nonee", "8 non", "8 none none", "8 8", "none 8", "8 even odd", "(8, 'none')",
                     "8,none", "8 \"none\"", "-", "8 -", "form 8 none", "8\tnone", "8 none;", "16 8 1"):
            self.is_refused(read_form, text)

    def test_what_is_no_number(self):
        for number in NO_NUMBERS:
            self.is_refused(read_form, f"{number} none")
        for number in ("08", "008", "+8", "8.", "8 0"):
            self.is_refused(read_form, f"{number} even")

    def test_what_is_no_text(self):
        for thing in NO_TEXTS:
            self.is_refused(read_form, thing)


class Ears(Texts):
    def test_each_ear_there_and_back(self):
        for ear in all_ears(3, 64):
            text = show_ear(ear)
            self.assertEqual(text, f"{ear[0]} {ear[1]} {ear[2]}")
            self.assertEqual(read_ear(text), ear)
        self.assertIs(type(read_ear("16 8 1")), tuple)

    def test_out_of_the_bounds(self):
        right = {ear: True for ear in all_ears(3, 64)}
        for ear in itertools.product((0, 1, 2, 3, 4, 8, 16, 64, 65), range(0, 67), range(0, 6)):
            if ear in right:
                self.assertEqual(read_ear(" ".join(str(part) for part in ear)), ear)
            else:
                self.is_refused(read_ear, " ".join(str(part) for part in ear))

    def test_other_texts(self):
        for text in ("", " ", "16", "16 8", "16 8 1 0", "16 8 1 1", " 16 8 1", "16 8 1 ", "16  8 1", "16 8  1", "16 8 1\n",
                     "\n16 8 1", "16\n8\n1", "16 8\n1", "-", "16 8 -", "16,8,1", "(16, 8, 1)", "16 8 none", "16 8 1;", "8 none"):
            self.is_refused(read_ear, text)

    def test_what_is_no_number(self):
        for number in NO_NUMBERS:
            for text in (f"{number} 8 1", f"16 {number} 1", f"16 8 {number}"):
                self.is_refused(read_ear, text)
        for text in ("016 8 1", "16 08 1", "16 8 01", "16 8 00", "16 8 +1", "16 8 -0", "16 8 -1"):
            self.is_refused(read_ear, text)

    def test_what_is_no_text(self):
        for thing in NO_TEXTS:
            self.is_refused(read_ear, thing)


class Rows(Texts):
    def test_told_rows(self):
        self.assertEqual([show_row(row) for row in ([], [0], [1], [0, 1, 1], [1, 0, 0])], ["-", "0", "1", "011", "100"])
        self.assertEqual([read_row(text) for text in ("-", "0", "1", "011", "100")], [[], [0], [1], [0, 1, 1], [1, 0, 0]])

    def test_each_short_row_there_and_back(self):
        for many in range(9):
            for row in itertools.product((0, 1), repeat=many):
                self.assertEqual(read_row(show_row(list(row))), list(row))

    def test_long_rows(self):
        source = random.Random(81)
        for many in (3999, 4000, 20000):
            row = [source.randint(0, 1) for k in range(many)]
            kept = list(row)
            text = show_row(row)
            self.assertTrue(len(text) == many and read_row(text) == row == kept)

    def test_other_texts(self):
        for text in ("", " ", "2", "012", "0 1", " 01", "01 ", "01\n", "\n01", "0\n1", "--", "-0", "0-", "- ", " -", "-\n",
                     "0,1", "[0, 1]", "01;", "o1", "l", "x", "01x", "0.1", "0" * 3999 + "2", "2" + "0" * 3999):
            self.is_refused(read_row, text)

    def test_what_is_no_text(self):
        for thing in NO_TEXTS + ([0, 1], [1], (0, 1), ["0", "1"], ("0",)):
            self.is_refused(read_row, thing)

    def test_the_told_list_is_the_askers_own(self):
        for text in ("-", "01"):
            told = read_row(text)
            self.assertIs(type(told), list)
            whole = list(told)
            told.append(9)
            self.assertEqual(read_row(text), whole)


class Speeches(Texts):
    def test_told_speeches(self):
        form = (2, "none")
        for speech, text in (([], "-"), ([(0, 0)], "0=0"), ([(5, 3)], "5=3"), ([(5, 3), (45, 0)], "5=3; 45=0"),
                             ([(5, 3), (45, 0), (LAST, 1)], "5=3; 45=0; 1000000000000000000=1")):
            self.assertEqual(show_speech(speech), text)
            self.assertEqual(read_speech(text, form, 10), speech)

    def test_there_and_back(self):
        source = random.Random(82)
        for bits, check in itertools.product((2, 3, 8, 16), CHECKS):
            for rate, many in itertools.product((1, 16, MOST), (1, 2, 60)):
                speech = some_speech(source, (bits, check), rate, many, (0, 1, 10 ** 9))
                kept = list(speech)
                told = read_speech(show_speech(speech), (bits, check), rate)
                self.assertEqual(told, kept)
                self.assertEqual(speech, kept)
                self.assertTrue(all(type(pair) is tuple for pair in told))

    def test_words_that_are_no_speech(self):
        form = (2, "odd")
        size = size_by_words(form)
        for rate in (1, 10, MOST):
            self.assertEqual(read_speech(f"0=1; {size * rate}=2", form, rate), [(0, 1), (size * rate, 2)])
            for text in (f"0=1; {size * rate - 1}=2", "0=1; 0=2", f"7=1; {size * rate + 6}=2", f"{size * rate}=1; 0=2",
                         "0=4", "0=5", f"0=1; {size * rate}=4", "0=9999999999999999999", f"{LAST + 1}=1", "9999999999999999999=0"):
                self.is_refused(read_speech, text, form, rate)
            self.assertEqual(read_speech(f"{LAST}=3", form, rate), [(LAST, 3)])

    def test_they_hang_on_the_form_and_the_rate(self):
        text = "0=3; 40=1"
        self.assertEqual(read_speech(text, (2, "none"), 10), [(0, 3), (40, 1)])
        self.is_refused(read_speech, text, (2, "none"), 11)
        self.is_refused(read_speech, text, (2, "even"), 10)
        self.is_refused(read_speech, text, (3, "none"), 10)
        self.assertEqual(read_speech("0=255", (8, "none"), 10), [(0, 255)])
        self.is_refused(read_speech, "0=255", (7, "none"), 10)

    def test_other_texts(self):
        for text in ("", " ", "0", "=", "0=", "=0", "0=0=0", "0==0", "0 = 0", "0= 0", "0 =0", " 0=0", "0=0 ", "0=0\n", "\n0=0",
                     "0=0;", "0=0; ", ";", "; ", "; 0=0", "0=0;40=0", "0=0;  40=0", "0=0 ; 40=0", "0=0 40=0", "0=0;\n40=0",
                     "0=0, 40=0", "0=0; 40", "0=0; -", "-; 0=0", "--", "- ", " -", "-\n", "-0=0", "0=-0", "0:0", "[(0, 0)]",
                     "0=0; 40=0;", "0=0; 40=0; ", "0=0;; 40=0"):
            self.is_refused(read_speech, text, (2, "none"), 10)

    def test_what_is_no_number(self):
        for number in NO_NUMBERS:
            for text in (f"{number}=1", f"0={number}", f"0=1; {number}=1", f"0=1; 1000={number}"):
                self.is_refused(read_speech, text, (16, "none"), 10)
        for text in ("00=1", "0=01", "0=00", "010=1", "0=1; 0100=1"):
            self.is_refused(read_speech, text, (2, "none"), 10)

    def test_what_is_no_text(self):
        for thing in NO_TEXTS + ([(0, 1)], [("0=1",)]):
            self.is_refused(read_speech, thing, (2, "none"), 10)

    def test_the_told_list_is_the_askers_own(self):
        for text in ("-", "0=1"):
            told = read_speech(text, (2, "none"), 10)
            self.assertIs(type(told), list)
            whole = list(told)
            told.append(9)
            self.assertEqual(read_speech(text, (2, "none"), 10), whole)


if __name__ == "__main__":
    unittest.main()
