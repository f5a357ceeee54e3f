"""Numbers, forms, ears, rows and speeches as texts, and read back."""

from barewire.ears import is_ear
from barewire.errors import NoText
from barewire.forms import is_form
from barewire.lines import is_speech

FIGURES = "0123456789"
MOST_FIGURES = 19
# An empty row and an empty speech are written so.
NOTHING = "-"


def show_form(form):
    """The text of a form."""
    bits, check = form
    return f"{bits} {check}"


def show_ear(ear):
    """The text of an ear."""
    over, spot, beside = ear
    return f"{over} {spot} {beside}"


def show_row(row):
    """The text of a row of levels."""
    return "".join([str(level) for level in row]) or NOTHING


def show_speech(speech):
    """The text of a speech."""
    return "; ".join([f"{begin}={word}" for begin, word in speech]) or NOTHING


def parts_of(text, sign):
    """The parts of a text between signs; NoText for what is no text."""
    if not isinstance(text, str):
        raise NoText("this is no text")
    return text.split(sign)


def read_number(text):
    """The number that a text writes."""
    # Not by isdigit: it takes other figures than 0 to 9, too.
    if not 1 <= len(text) <= MOST_FIGURES or not all(sign in FIGURES for sign in text):
        raise NoText("a number is written by 1 to 19 figures")
    if text[0] == "0" and text != "0":
        raise NoText("a number has no noughts ahead")
    return int(text)


def read_form(text):
    """The form that a text writes."""
    parts = parts_of(text, " ")
    if len(parts) != 2:
        raise NoText("a form is written as BITS CHECK")
    form = (read_number(parts[0]), parts[1])
    if not is_form(form):
        raise NoText("there is no such form")
    return form


def read_ear(text):
    """The ear that a text writes."""
    ear = tuple([read_number(part) for part in parts_of(text, " ")])
    if not is_ear(ear):
        raise NoText("there is no such ear")
    return ear


def read_row(text):
    """The row of levels that a text writes."""
    if text == NOTHING:
        return []
    if not isinstance(text, str) or not text or not all(sign in "01" for sign in text):
        raise NoText("a row is written by its signs 0 and 1")
    return [int(sign) for sign in text]


def read_said(text):
    """The begin and the word that a text writes."""
    parts = parts_of(text, "=")
    if len(parts) != 2:
        raise NoText("a word of a speech is written as BEGIN=WORD")
    return (read_number(parts[0]), read_number(parts[1]))


def read_speech(text, form, rate):
    """The speech by the form at the rate that a text writes."""
    if text == NOTHING:
        return []
    speech = [read_said(part) for part in parts_of(text, "; ")]
    if not is_speech(form, rate, speech):
        raise NoText("these words are no speech by the form at the rate")
    return speech
