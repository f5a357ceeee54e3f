"""The interface, and of points 2, 3 and 4 what holds over the whole program."""

import importlib
import inspect
import itertools
import random
import unittest

from by_words import CHECKS, LAST, all_ears, due_by_words, size_by_words, some_gentle

from barewire.beats import row_by, struck
from barewire.desk import Desk
from barewire.ears import Listener, hear
from barewire.errors import WireError
from barewire.flips import flipped
from barewire.forms import levels_of, outcome
from barewire.hearing import heard_row, is_right
from barewire.lines import line_of, speech_of
from barewire.rounds import joins, rest_of, round_levels
from barewire.speakers import Wire, shared
from barewire.sure import is_sure, misheard, sure_rates
from barewire.texts import show_ear, show_form, show_row, show_speech

INTERFACE = {
    "forms": {"is_form": 1, "size_of": 1, "levels_of": 2, "outcome": 2},
    "flips": {"unlike": 2, "flipped": 2, "strangers": 2, "nearest": 2},
    "lines": {"line_of": 3, "level_at": 2, "speech_of": 3},
    "beats": {"moment_of": 2, "first_from": 2, "beats_in": 3, "row_by": 3, "struck": 2},
    "ears": {"is_ear": 1, "asked_of": 2, "reach": 2, "hear": 3},
    "hearing": {"due_of": 4, "is_gentle": 6, "heard_row": 6, "is_right": 6},
    "sure": {"spare": 4, "is_sure": 4, "sure_rates": 3, "sure_steps": 3, "misheard": 4},
    "found": {"row_of": 6, "found_rates": 4, "found_behinds": 5, "fit": 5},
    "rounds": {"rest_of": 2, "round_levels": 2, "joins": 2},
    "texts": {"show_form": 1, "show_ear": 1, "show_row": 1, "show_speech": 1, "read_form": 1, "read_ear": 1, "read_row": 1,
              "read_speech": 3},
    "speakers": {"shared": 1},
}
CLASSES = {
    ("ears", "Listener"): {"__init__": 2, "beat": 1, "at_rest": 0, "heard": 0},
    ("desk", "Desk"): {"__init__": 0, "told": 1},
    ("speakers", "Wire"): {"__init__": 3, "put": 3, "go_on": 1, "tales": 0, "waiting": 1, "said": 1},
}
REFUSALS = ("NoWord", "NoLevels", "NoSpeech", "NoLine", "NoText", "NoOrder", "NoBeat")


def in_module(file, name):
    return getattr(importlib.import_module("barewire." + file), name)


class Interface(unittest.TestCase):
    def test_functions(self):
        for file, functions in INTERFACE.items():
            for name, many in functions.items():
                self.assertEqual(len(inspect.signature(in_module(file, name)).parameters), many, name)

    def test_classes(self):
        for (file, name), methods in CLASSES.items():
            own = vars(in_module(file, name))
            for method, many in methods.items():
                self.assertEqual(len(inspect.signature(own[method]).parameters), many + 1, (name, method))

    def test_refusals(self):
        self.assertEqual(WireError.__bases__, (ValueError,))
        for name in REFUSALS:
            self.assertEqual(in_module("errors", name).__bases__, (WireError,))


class WholePromise(unittest.TestCase):
    def test_from_words_to_words(self):
        """What a speaker says is heard at any sure rate, and its line is told by its speech alone."""
        source = random.Random(99)
        ears = all_ears(3, 64)
        for count in range(300):
            form, ear = (source.randint(2, 16), source.choice(CHECKS)), source.choice(ears)
            step = source.choice((1, 10, 10 ** 6))
            least, most = sure_rates(form, ear, step)
            rate = source.choice((least, most, source.randint(least, most)))
            speech, free = [], source.randint(step, 9 * step)
            for number in range(source.randint(1, 6)):
                speech.append((free, source.randrange(1 << form[0])))
                free += size_by_words(form) * rate + source.choice((0, 1, source.randint(0, 9 * step)))
            beats = (source.randint(0, speech[0][0]), step)
            strikes = some_gentle(source, form, ear, due_by_words(speech, beats))
            line = line_of(form, rate, speech)
            self.assertEqual(speech_of(form, rate, line), speech)
            row = heard_row(rate, form, ear, speech, beats, strikes)
            self.assertEqual(row, struck(row_by(line, beats, len(row)), strikes))
            self.assertEqual(hear(form, ear, row), (due_by_words(speech, beats), None))
            listener = Listener(form, ear)
            self.assertEqual([told for told in map(listener.beat, row) if told], due_by_words(speech, beats))

    def test_sure_or_misheard(self):
        for form, ear, step in itertools.product(((2, "none"), (8, "even")), all_ears(3, 16)[::9], (1, 5)):
            for rate in range(1, 20 * step):
                told = misheard(form, ear, step, rate)
                self.assertIs(told is None, is_sure(form, ear, step, rate))
                if told is not None:
                    speech, first, strikes = told
                    self.assertIs(is_right(rate, form, ear, speech, (first, step), strikes), False)

    def test_one_flip_is_known_where_there_is_a_check(self):
        for form in [(bits, check) for bits in (2, 3, 5) for check in ("even", "odd")]:
            for word in range(1 << form[0]):
                levels = levels_of(form, word)
                for place in range(len(levels)):
                    self.assertEqual(outcome(form, flipped(levels, [place]))[0], "broken")

    def test_who_hears_the_shared_line_hears_the_tales(self):
        source = random.Random(100)
        for count in range(60):
            form, ear, many = (source.randint(2, 8), source.choice(CHECKS)), (8, 4, 1), source.randint(1, 8)
            rate, step = 80 + source.choice((-1, 0, 1)), 10
            self.assertTrue(is_sure(form, ear, step, rate))
            wire = Wire(form, rate, many)
            for number in range(20):
                wire.put(source.randrange(many), source.choice((50, 50, source.randint(50, 9000))), source.randrange(1 << form[0]))
            tales = wire.go_on(LAST)
            line = shared([wire.said(speaker) for speaker in range(many)])
            speech = [(begin, word) for begin, word, speakers in tales]
            self.assertEqual(speech_of(form, rate, line), speech)
            row = row_by(line, (7, step), (speech[-1][0] + 20 * rate) // step)
            self.assertEqual([right for b, right in hear(form, ear, row)[0]], [("word", word) for begin, word in speech])

    def test_who_is_in_step_hears_all_words(self):
        # At the ear's own beats, from a told level on.
        ear = (4, 2, 0)
        for check, words in itertools.product(CHECKS, ([1], [2, 5], [7, 0, 3], [1, 2, 4, 6])):
            form = (3, check)
            size, levels = size_by_words(form), round_levels(form, words)
            for place, (kind, what) in enumerate(joins(form, words)):
                if kind != "in":
                    continue
                row = [level for k in range(30 * size) for level in [levels[(place + k) % len(levels)]] * 4]
                told = dict(hear(form, ear, row)[0])
                for number in range(20 - what // size):
                    due = words[((place + what) // size + number) % len(words)]
                    self.assertEqual(told[(what + number * size) * 4], ("word", due))

    def test_behind_the_rest_a_word_is_heard(self):
        source = random.Random(101)
        for form, ear in itertools.product(((2, "none"), (5, "odd")), all_ears(3, 12)[::7]):
            row = [source.randint(0, 1) for k in range(100)] + [1] * rest_of(form, ear)
            begin = len(row)
            word = source.randrange(1 << form[0])
            row += [level for level in levels_of(form, word) for beat in range(ear[0])]
            self.assertEqual(hear(form, ear, row)[0][-1], (begin, ("word", word)))

    def test_a_desk_tells_what_the_functions_tell(self):
        form, ear, step, rate, speech = (5, "even"), (9, 4, 2), 7, 62, [(3, 17), (900, 30), (1396, 0)]
        desk = Desk()
        for order in (f"form {show_form(form)}", f"ear {show_ear(ear)}", f"pace {step} {rate}"):
            desk.told(order)
        for begin, word in speech:
            desk.told(f"say {begin} {word}")
        self.assertEqual(desk.told("speech"), show_speech(speech))
        self.assertEqual(desk.told("row 3 300"), show_row(row_by(line_of(form, rate, speech), (3, step), 300)))
        self.assertEqual(desk.told("rates"), "{}-{}".format(*sure_rates(form, ear, step)))


if __name__ == "__main__":
    unittest.main()
