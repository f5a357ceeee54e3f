"""Points 23 and 24: a desk, its orders and answers, and what it refuses."""

import itertools
import random
import re
import unittest

from by_words import (
    CHECKS, LAST, MOST, first_by_words, hear_by_words, heard_row_by_words, level_by_words, levels_by_words,
    reach_by_words, size_by_words, spare_by_words, sure_by_words,
)

from barewire.desk import Desk
from barewire.errors import NoBeat, NoOrder, NoSpeech, NoWord, WireError

NUMBER = "(0|[1-9][0-9]{0,18})"
SHAPES = [
    ("form", NUMBER, "(none|even|odd)"), ("ear", NUMBER, NUMBER, NUMBER), ("pace", NUMBER, NUMBER), ("say", NUMBER, NUMBER),
    ("strike", NUMBER), ("calm",), ("speech",), ("line",), ("row", NUMBER, NUMBER), ("hear", NUMBER), ("sure",), ("rates",),
    ("spare",),
]
NO_ORDERS = (
    None, True, False, 0, 1, -1, 10 ** 5000, [], (), ["calm"], ("calm",), [["calm"]], (("calm",),), ["say", "0", "1"], ("say", 0, 1),
    [None], [[[[["calm"]]]]], (((((),),),),), ["say 0 1"], [True], (False, None),
    "", " ", "  ", "\n", "-", "ok", "0", "x", "help", "forms", "ears", "Form 8 none", "FORM 8 none", "Calm", "CALM", "cAlm", "calms",
    "cal", "calm\n", "\ncalm", "calm ", " calm", "calm\n\n", "calm calm", "calm 0", "calm -", "calm;", "calm; calm", "calm\ncalm",
    "speech ", " speech", "speech 0", "speech -", "Speech", "speech\n", "speeches", "line ", " line", "line 0", "lines", "Line",
    "line\n", "sure ", "sure?", "Sure", "sure 1", "sure 1 16", "rates ", "rate", "Rates", "rates 1", "spare ", "spares", "Spare",
    "spare 0", "told", "__init__", "wipe", "form", "form ", "form 8", "form none", "form 8 none ", "form  8 none", "form 8  none",
    " form 8 none", "form 8 none\n", "form 8 none 1", "form 8 None", "form 8 nonee", "form 8 ", "form 08 none", "form +8 none",
    "form -8 none", "form 8.0 none", "form none 8", "form 8,none", "form 8\nnone", "form\n8 none", "form8 none", "form 8 8",
    "ear", "ear ", "ear 16", "ear 16 8", "ear 16 8 1 ", "ear 16 8 1 0", "ear  16 8 1", "ear 16  8 1", "ear 16 8  1", " ear 16 8 1",
    "ear 16 8 1\n", "ear 016 8 1", "ear 16 08 1", "ear 16 8 01", "ear 16 8 -1", "ear 16 8 +1", "ear 16 8 none", "ear 16,8,1", "Ear 16 8 1",
    "pace", "pace ", "pace 1", "pace 1 ", "pace 1 16 ", "pace 1  16", "pace  1 16", " pace 1 16", "pace 1 16 1", "pace 1 16\n",
    "pace 01 16", "pace 1 016", "pace 1 -16", "pace -1 16", "pace 1 1e3", "pace 1 16.0", "pace a b", "Pace 1 16", "pace 1;16",
    "say", "say ", "say 0", "say 0 ", "say 0 1 ", "say 0 1 2", "say  0 1", "say 0  1", " say 0 1", "say 0 1\n", "say 00 1", "say 0 01",
    "say 0 -1", "say -1 0", "say 0=1", "say 0 1; 200 1", "say +0 1", "say 0 1.0", "say 0 one", "Say 0 1", "say 0 99999999999999999999",
    "say 0 10000000000000000000", "say 99999999999999999999 1", "say 0 00", "say\n0 1", "say 0\n1",
    "strike", "strike ", "strike 1 ", "strike  1", "strike 1 2", " strike 1", "strike 1\n", "strike 01", "strike -1", "strike x",
    "Strike 1", "strike 1,2", "strike +1", "strike 1.0",
    "row", "row ", "row 0", "row 0 ", "row 0 5 ", "row  0 5", "row 0  5", " row 0 5", "row 0 5 1", "row 0 5\n", "row 00 5", "row 0 05",
    "row -1 5", "row 0 -5", "row 0 x", "Row 0 5", "hear", "hear ", "hear 0 ", "hear  0", "hear 0 1", " hear 0", "hear 0\n", "hear 00",
    "hear -1", "hear x", "Hear 0", "hear +0", "hear -", "hear 0.0", "say 0 1 " + "0" * 3980, "x" * 4000, " " * 4000, "calm" + " " * 3996,
)


class PlainDesk:
    """A desk by the words of points 23 and 24; a refusal is told as its class."""

    def __init__(self):
        self.form, self.ear, self.step, self.rate, self.speech, self.strikes = (8, "none"), (16, 8, 1), 1, 16, [], set()

    def told(self, order):
        for shape in SHAPES:
            found = isinstance(order, str) and re.fullmatch(" ".join(shape), order)
            if found:
                things = [int(thing) if thing.isdigit() else thing for thing in found.groups()]
                return getattr(self, "do_" + shape[0])(*things)
        return NoOrder

    def do_form(self, bits, check):
        if not 2 <= bits <= 16:
            return NoOrder
        self.form, self.speech, self.strikes = (bits, check), [], set()
        return "ok"

    def do_ear(self, over, spot, beside):
        if not 3 <= over <= 64 or not 0 <= beside <= 3 or not beside < spot < over - beside:
            return NoOrder
        self.ear = (over, spot, beside)
        return "ok"

    def do_pace(self, step, rate):
        if not 1 <= step <= MOST or not 1 <= rate <= MOST:
            return NoOrder
        self.step, self.rate, self.speech, self.strikes = step, rate, [], set()
        return "ok"

    def do_say(self, begin, word):
        if begin > LAST:
            return NoOrder
        if word >= 2 ** self.form[0]:
            return NoWord
        if len(self.speech) == 60 or self.speech and begin < self.end():
            return NoSpeech
        self.speech.append((begin, word))
        return "ok"

    def end(self):
        return self.speech[-1][0] + size_by_words(self.form) * self.rate

    def do_strike(self, beat):
        if beat > 20000:
            return NoOrder
        self.strikes ^= {beat}
        return "ok"

    def do_calm(self):
        self.strikes = set()
        return "ok"

    def do_speech(self):
        return "; ".join(f"{begin}={word}" for begin, word in self.speech) or "-"

    def do_line(self):
        told, ahead = [], 1
        for begin, word in self.speech:
            for k, level in enumerate(levels_by_words(self.form, word)):
                told += [f"{begin + k * self.rate}:{level}"] if level != ahead else []
                ahead = level
        return " ".join(told) or "-"

    def do_row(self, first, many):
        if first > LAST or many > 20000:
            return NoOrder
        row = [level_by_words(self.form, self.rate, self.speech, first + k * self.step) for k in range(many)]
        return "".join(str(level ^ (beat in self.strikes)) for beat, level in enumerate(row)) or "-"

    def do_hear(self, first):
        if first > LAST:
            return NoOrder
        if not self.speech:
            return "-"
        if first > self.speech[0][0] or self.end() - first > 20000 * self.step:
            return NoBeat
        if first_by_words((first, self.step), self.end()) + reach_by_words(self.form, self.ear) + 2 > 20000:
            return NoBeat
        row = heard_row_by_words(self.rate, self.form, self.ear, self.speech, (first, self.step), self.strikes)
        heard = hear_by_words(self.form, self.ear, row)[0]
        return " ".join(f"{b}={what}" if kind == "word" else f"{b}!{what}" for b, (kind, what) in heard) or "-"

    def do_sure(self):
        return "yes" if sure_by_words(self.form, self.ear, self.step, self.rate) else "no"

    def do_rates(self):
        # From over times the step, which is sure, to both sides; only asked for small steps.
        least = most = self.ear[0] * self.step
        while least > 1 and sure_by_words(self.form, self.ear, self.step, least - 1):
            least -= 1
        while sure_by_words(self.form, self.ear, self.step, most + 1):
            most += 1
        return f"{least}-{most}"

    def do_spare(self):
        return " ".join(f"{early}/{late}" for early, late in spare_by_words(self.form, self.ear, self.step, self.rate))


def state_of(desk):
    """What a desk answers, from which all that it keeps can be told."""
    return [desk.told(order) for order in ("speech", "line", "row 0 600", "row 19950 60", "sure", "rates", "spare")]


class Told(unittest.TestCase):
    def refused(self, desk, order, kind):
        """The order is refused, by just this class, and nothing is changed."""
        before = state_of(desk)
        with self.assertRaises(WireError) as caught:
            desk.told(order)
        self.assertIs(type(caught.exception), kind, order)
        self.assertEqual(state_of(desk), before)

    def all_ok(self, desk, *orders):
        for order in orders:
            self.assertEqual(desk.told(order), "ok", order)

    def answers(self, desk, *pairs):
        for order, answer in pairs:
            self.assertEqual(desk.told(order), answer, order)


class Answers(Told):
    def test_at_first(self):
        self.answers(
            Desk(), ("speech", "-"), ("line", "-"), ("row 0 5", "11111"), ("row 0 0", "-"), ("hear 0", "-"), ("sure", "yes"),
            ("rates", "16-16"), ("spare", " ".join(["7/6"] * 10)), ("calm", "ok"), ("speech", "-"),
        )

    def test_what_is_kept_at_first(self):
        # (8, "none"): ten levels and no check; the rate 16; the ear (16, 8, 1); the step 1; no strikes.
        desk = Desk()
        self.refused(desk, "say 0 256", NoWord)
        self.all_ok(desk, "say 0 255")
        self.refused(desk, "say 159 0", NoSpeech)
        self.all_ok(desk, "say 160 0")
        self.answers(desk, ("line", "0:0 16:1 160:0 304:1"), ("hear 0", "0=255 160=0"), ("row 15 3", "011"))

    def test_say_and_speech_and_line(self):
        desk = Desk()
        self.all_ok(desk, "form 2 odd", "pace 1 10", "say 5 1")
        self.answers(desk, ("speech", "5=1"), ("line", "5:0 15:1 25:0 45:1"))
        self.all_ok(desk, "say 55 3")
        self.answers(desk, ("speech", "5=1; 55=3"), ("line", "5:0 15:1 25:0 45:1 55:0 65:1"))
        self.all_ok(desk, f"say {LAST} 0")
        self.answers(desk, ("speech", f"5=1; 55=3; {LAST}=0"))
        self.assertTrue(desk.told("line").endswith(f" {LAST}:0 {LAST + 30}:1"))

    def test_row(self):
        desk = Desk()
        self.all_ok(desk, "form 2 none", "pace 2 3", "say 4 1")
        self.answers(desk, ("row 0 10", "1100100111"), ("row 4 1", "0"), ("row 3 7", "1011011"), ("row 16 4", "1111"), ("row 4 0", "-"))
        self.all_ok(desk, "strike 0", "strike 9", "strike 10", "strike 20000")
        self.answers(desk, ("row 0 10", "0100100110"), ("row 0 11", "01001001100"), ("row 4 1", "1"), ("row 4 0", "-"))
        told = desk.told("row 0 20000")
        self.assertTrue(told == "01001001100" + "1" * 19989)

    def test_row_behind_the_last_moment(self):
        desk = Desk()
        self.all_ok(desk, "form 2 none", f"pace {MOST} {MOST}", f"say {LAST} 1")
        self.answers(desk, (f"row {LAST} 6", "010111"), (f"row {LAST - MOST} 6", "101011"))
        self.assertTrue(desk.told(f"row {LAST} 20000") == "010" + "1" * 19997)
        self.all_ok(desk, "pace 1 1", f"say {LAST} 2")
        self.answers(desk, (f"row {LAST} 5", "00111"))

    def test_hear(self):
        desk = Desk()
        self.all_ok(desk, "form 2 even", "ear 5 2 1", "pace 10 50", "say 30 1", "say 280 2")
        self.answers(desk, ("hear 0", "3=1 28=2"), ("hear 30", "0=1 25=2"), ("hear 29", "1=1 26=2"), ("hear 25", "1=1 26=2"))
        # Level 1 of the first word, asked for by 9, 10, 11, is taken as 0: then the check is wrong.
        self.all_ok(desk, "strike 9", "strike 10")
        self.answers(desk, ("hear 0", "3!check 28=2"))
        self.all_ok(desk, "strike 24", "strike 25", "strike 9", "strike 10")
        self.answers(desk, ("hear 0", "3!stop 28=2"))
        self.all_ok(desk, "calm", "strike 4", "strike 5", "strike 6")
        self.answers(desk, ("hear 29", "1=1 26=2"))

    def test_hear_nothing(self):
        desk = Desk()
        self.answers(desk, ("hear 0", "-"), (f"hear {LAST}", "-"))
        self.all_ok(desk, "strike 0", "strike 1")
        self.answers(desk, ("hear 0", "-"), ("hear 5", "-"))
        # Beats that pass over the word.
        self.all_ok(desk, "form 2 none", "pace 100 1", "say 50 0")
        self.answers(desk, ("hear 0", "-"))

    def test_hear_of_a_row_of_14(self):
        # f, the reach and 2: a strike of the last beat of the row is heard as a begin only, one beyond it not at all.
        desk = Desk()
        self.all_ok(desk, "form 2 none", "ear 3 1 0", "pace 1 3", "say 0 3", "strike 12", "strike 13")
        self.answers(desk, ("hear 0", "0=3 12=3"))
        self.all_ok(desk, "calm", "strike 13", "strike 14")
        self.answers(desk, ("hear 0", "0=3 13=3"))
        self.all_ok(desk, "calm", "strike 14", "strike 15")
        self.answers(desk, ("hear 0", "0=3"))

    def test_sure_rates_and_spare(self):
        desk = Desk()
        self.all_ok(desk, "form 2 none", "ear 5 2 1", "pace 10 51")
        self.answers(desk, ("sure", "yes"), ("rates", "48-53"), ("spare", "10/11 9/12 8/13 7/14"))
        self.all_ok(desk, "pace 10 54")
        self.answers(desk, ("sure", "no"), ("rates", "48-53"), ("spare", "10/14 6/18 2/22 -2/26"))
        self.all_ok(desk, "pace 1 1", "ear 3 1 0")
        self.answers(desk, ("sure", "no"), ("rates", "3-3"), ("spare", "1/-1 3/-3 5/-5 7/-7"))
        self.all_ok(desk, f"pace {MOST} {MOST}")
        self.answers(desk, ("sure", "no"), ("rates", "none"), ("spare", f"{MOST}/-{MOST} {3 * MOST}/-{3 * MOST} "
                                                              f"{5 * MOST}/-{5 * MOST} {7 * MOST}/-{7 * MOST}"))
        self.all_ok(desk, "pace 333333333333 1000000000000")
        self.answers(desk, ("sure", "yes"), ("rates", f"916666666666-{MOST}"))

    def test_form_and_pace_take_words_and_strikes_away_and_an_ear_does_not(self):
        for order in ("form 2 none", "form 8 none", "pace 1 16", "pace 2 5"):
            desk = Desk()
            self.all_ok(desk, "say 5 77", "strike 3", order)
            self.answers(desk, ("speech", "-"), ("line", "-"), ("row 0 6", "111111"), ("hear 0", "-"))
        for order in ("ear 16 8 1", "ear 3 1 0"):
            desk = Desk()
            self.all_ok(desk, "say 5 77", "strike 3", order)
            self.answers(desk, ("speech", "5=77"), ("row 0 7", "1110100"))

    def test_a_form_and_a_pace_keep_the_other_things(self):
        desk = Desk()
        self.all_ok(desk, "pace 10 51", "ear 5 2 1", "form 2 none")
        self.answers(desk, ("spare", "10/11 9/12 8/13 7/14"))
        self.all_ok(desk, "pace 10 54")
        self.answers(desk, ("spare", "10/14 6/18 2/22 -2/26"))
        self.all_ok(desk, "ear 3 1 0")
        self.answers(desk, ("spare", "10/34 -14/58 -38/82 -62/106"))

    def test_a_strike_struck_twice_and_calm(self):
        desk = Desk()
        self.all_ok(desk, "strike 1")
        self.answers(desk, ("row 0 4", "1011"))
        self.all_ok(desk, "strike 3", "strike 1")
        self.answers(desk, ("row 0 4", "1110"))
        self.all_ok(desk, "strike 1")
        self.answers(desk, ("row 0 4", "1010"))
        self.all_ok(desk, "calm", "calm")
        self.answers(desk, ("row 0 4", "1111"))
        self.all_ok(desk, "strike 1")
        self.answers(desk, ("row 0 4", "1011"))

    def test_very_many_strikes(self):
        desk = Desk()
        for beat in range(20001):
            desk.told(f"strike {beat}")
        self.assertTrue(desk.told("row 0 20000") == "0" * 20000)
        for beat in range(0, 20001, 2):
            desk.told(f"strike {beat}")
        self.assertTrue(desk.told("row 0 20000") == "10" * 10000)

    def test_two_desks_by_turns(self):
        one, other = Desk(), Desk()
        self.all_ok(one, "form 2 none", "say 0 1")
        self.answers(other, ("speech", "-"), ("rates", "16-16"), ("spare", " ".join(["7/6"] * 10)))
        self.all_ok(other, "say 9 200", "strike 0", "ear 5 2 1")
        self.answers(one, ("speech", "0=1"), ("row 0 2", "00"), ("spare", "7/6 7/6 7/6 7/6"))
        self.answers(other, ("speech", "9=200"), ("row 0 2", "01"))
        self.all_ok(one, "pace 3 9")
        self.answers(other, ("speech", "9=200"), ("line", "9:0 73:1 89:0 121:1"))

    def test_its_method_stands_in_the_class_itself(self):
        self.assertIn("told", vars(Desk))


class Bounds(Told):
    def each(self, good, bad, kind=NoOrder):
        for order in good:
            desk = Desk()
            self.all_ok(desk, "say 40 7", "strike 5")
            self.assertEqual(desk.told(order), "ok")
        for order in bad:
            desk = Desk()
            self.all_ok(desk, "say 40 7", "strike 5")
            self.refused(desk, order, kind)

    def test_form(self):
        for check in CHECKS:
            self.each([f"form {bits} {check}" for bits in (2, 3, 16)], [f"form {bits} {check}" for bits in (0, 1, 17, 18, LAST)])

    def test_ear(self):
        good = [(3, 1, 0), (64, 1, 0), (64, 63, 0), (64, 60, 3), (64, 4, 3), (8, 4, 3), (4, 2, 1), (3, 2, 0)]
        bad = [(2, 1, 0), (65, 32, 0), (3, 0, 0), (3, 3, 0), (16, 1, 1), (16, 15, 1), (16, 8, 4), (64, 61, 3), (64, 3, 3), (0, 0, 0),
               (16, LAST, 1), (LAST, 8, 1), (7, 3, 3)]
        self.each(["ear {} {} {}".format(*ear) for ear in good], ["ear {} {} {}".format(*ear) for ear in bad])

    def test_pace(self):
        self.each([f"pace {step} {rate}" for step in (1, 2, MOST - 1, MOST) for rate in (1, 2, MOST - 1, MOST)],
                  ["pace 0 1", "pace 1 0", "pace 0 0", f"pace {MOST + 1} 1", f"pace 1 {MOST + 1}", f"pace {LAST} {LAST}"])

    def test_say(self):
        self.each(["say 200 0", "say 200 255", f"say {LAST - 1} 1", f"say {LAST} 1"], [f"say {LAST + 1} 1", "say 9999999999999999999 1"])
        self.each([], [f"say 200 {word}" for word in (256, 257, 9999999999999999999)], NoWord)

    def test_strike(self):
        self.each(["strike 0", "strike 1", "strike 19999", "strike 20000"], ["strike 20001", f"strike {LAST}"])

    def test_row(self):
        desk = Desk()
        self.all_ok(desk, "say 40 7", "strike 5")
        for order in ("row 0 0", f"row {LAST} 0", "row 0 20000", f"row {LAST} 20000", f"row {LAST - 1} 1"):
            self.assertEqual(len(desk.told(order)), max(1, int(order.split()[2])))
        for order in (f"row {LAST + 1} 0", f"row {LAST + 1} 1", "row 0 20001", f"row 0 {LAST}", "row 9999999999999999999 1"):
            self.refused(desk, order, NoOrder)

    def test_hear(self):
        desk = Desk()
        self.refused(desk, f"hear {LAST + 1}", NoOrder)
        self.answers(desk, (f"hear {LAST}", "-"))
        self.all_ok(desk, f"say {LAST} 9")
        self.answers(desk, (f"hear {LAST}", "0=9"))
        self.refused(desk, f"hear {LAST + 1}", NoOrder)

    def test_nineteen_and_twenty_figures(self):
        desk = Desk()
        self.refused(desk, "say 0 9999999999999999999", NoWord)
        self.refused(desk, "say 0 10000000000000000000", NoOrder)


class Refusals(Told):
    def some_desks(self):
        desk = Desk()
        yield desk
        desk = Desk()
        self.all_ok(desk, "form 3 odd", "ear 5 3 1", "pace 10 49", "say 7 5", "say 900 0", "strike 4", "strike 19955")
        yield desk

    def test_what_is_no_order(self):
        for desk in self.some_desks():
            for order in NO_ORDERS:
                self.refused(desk, order, NoOrder)

    def test_no_order_ahead_of_no_word_ahead_of_no_speech(self):
        desk = Desk()
        self.all_ok(desk, "say 1000 1")
        self.refused(desk, f"say {LAST + 1} 256", NoOrder)
        self.refused(desk, "say 0 256 ", NoOrder)
        self.refused(desk, "say 00 256", NoOrder)
        self.refused(desk, "say 0 256", NoWord)
        self.refused(desk, "say 0 1", NoSpeech)
        for number in range(1, 60):
            self.all_ok(desk, f"say {1000 + 160 * number} {number}")
        self.refused(desk, "say 100000 256", NoWord)
        self.refused(desk, "say 0 256", NoWord)
        self.refused(desk, "say 100000 1", NoSpeech)

    def test_a_word_a_tick_ahead_of_the_end(self):
        for bits, check in itertools.product((2, 8, 16), CHECKS):
            for rate in (1, 16, MOST):
                desk = Desk()
                end = 5 + size_by_words((bits, check)) * rate
                self.all_ok(desk, f"form {bits} {check}", f"pace 1 {rate}", "say 5 3")
                for begin in (0, 4, 5, 6, end - 1):
                    self.refused(desk, f"say {begin} 1", NoSpeech)
                self.all_ok(desk, f"say {end} 1")
                self.refused(desk, f"say {end} 1", NoSpeech)

    def test_the_61st_word(self):
        desk = Desk()
        for number in range(60):
            self.all_ok(desk, f"say {160 * number} {number}")
        for begin in (9600, 9601, LAST):
            self.refused(desk, f"say {begin} 1", NoSpeech)
        self.assertEqual(desk.told("hear 0"), " ".join(f"{160 * number}={number}" for number in range(60)))
        self.all_ok(desk, "form 8 none", "say 0 1")

    def test_hear_with_a_first_beat_behind_the_first_begin(self):
        desk = Desk()
        self.all_ok(desk, "say 100 7", "say 500 8")
        self.answers(desk, ("hear 100", "0=7 400=8"), ("hear 99", "1=7 401=8"), ("hear 0", "100=7 500=8"))
        for first in (101, 102, 260, 500, LAST):
            self.refused(desk, f"hear {first}", NoBeat)

    def test_hear_with_20000_beats_and_one_more(self):
        # The reach is 153: so f may be 19845.
        desk = Desk()
        self.all_ok(desk, "say 0 7", f"say {19845 - 160} 8")
        self.answers(desk, ("hear 0", f"0=7 {19845 - 160}=8"))
        desk = Desk()
        self.all_ok(desk, "say 0 7", f"say {19846 - 160} 8")
        self.refused(desk, "hear 0", NoBeat)
        desk = Desk()
        self.all_ok(desk, "say 19685 7")
        self.answers(desk, ("hear 0", "19685=7"), ("hear 1", "19684=7"))
        desk = Desk()
        self.all_ok(desk, "say 19686 7")
        self.refused(desk, "hear 0", NoBeat)
        self.answers(desk, ("hear 1", "19685=7"))
        # An ear of less reach leaves more beats.
        self.all_ok(desk, "ear 16 7 1")
        self.answers(desk, ("hear 0", "19686=7"))

    def test_hear_far_too_many_beats(self):
        desk = Desk()
        self.all_ok(desk, f"say {LAST} 7")
        self.refused(desk, "hear 0", NoBeat)
        self.all_ok(desk, f"pace 1 {MOST}", "say 0 7")
        self.refused(desk, "hear 0", NoBeat)

    def test_orders_go_on_behind_refusals(self):
        desk = Desk()
        for order in ("say 5 256", "calm ", None, "form 1 none", "say 0 1", "strike 20001", "strike 3", "say 1 1", "hear 1", "say 160 2"):
            try:
                desk.told(order)
            except WireError:
                pass
        self.answers(desk, ("speech", "0=1; 160=2"), ("row 0 5", "00010"), ("hear 0", "0=1 160=2"))


class AgainstTheWords(unittest.TestCase):
    def some_order(self, source, plain):
        begin = source.choice((0, 3, plain.end() if plain.speech else 5, (plain.end() if plain.speech else 9) + source.randint(-2, 40)))
        word = source.choice((0, 1, source.randrange(1 << plain.form[0]), 1 << plain.form[0]))
        first = source.choice((0, 1, plain.speech[0][0] if plain.speech else 3, source.randint(0, 40)))
        over = source.randint(2, 12)
        step = source.randint(0, 4)
        return source.choice((
            f"say {begin} {word}", f"say {begin} {word}", f"say {begin} {word}", f"say {begin} {word}", f"strike {source.randint(0, 80)}",
            f"strike {source.randint(0, 80)}", f"row {first} {source.randint(0, 90)}", f"hear {first}", f"hear {first}", "speech", "line",
            "sure", "rates", "spare", f"ear {over} {source.randint(1, over)} {source.randint(0, 2)}", "calm" if source.random() < 0.2 else "sure",
            f"form {source.randint(1, 6)} {source.choice(CHECKS)}" if source.random() < 0.2 else "line",
            f"pace {step} {source.randint(0, 12) * step}" if source.random() < 0.4 else "speech",
            source.choice(("calm ", "say 0", "hear", "x", "row 0 20001", "hear 00", None, "strike 20001")),
        ))

    def test_any_orders(self):
        source = random.Random(91)
        seen = {}
        for count in range(60):
            desk, plain = Desk(), PlainDesk()
            for number in range(120):
                order = self.some_order(source, plain)
                due = plain.told(order)
                try:
                    told = desk.told(order)
                except WireError as refusal:
                    told = type(refusal)
                self.assertEqual(told, due, order)
                kind = str(order).split(" ")[0], due if isinstance(due, type) else ""
                seen[kind] = seen.get(kind, 0) + 1
        for kind in (("say", ""), ("say", NoWord), ("say", NoSpeech), ("hear", ""), ("hear", NoBeat), ("pace", NoOrder), ("ear", NoOrder)):
            self.assertGreater(seen[kind], 20, kind)


if __name__ == "__main__":
    unittest.main()
