"""A desk that is told orders, texts, and answers each by a text."""

from barewire.beats import row_by, struck
from barewire.ears import hear
from barewire.errors import NoBeat, NoOrder, NoSpeech, NoText, NoWord
from barewire.forms import is_word
from barewire.hearing import beats_heard, heard_row
from barewire.lines import LAST_MOMENT, changes_of, is_speech
from barewire.sure import MOST_TICKS, is_sure, spare, sure_rates
from barewire.texts import NOTHING, read_ear, read_form, read_number, show_row, show_speech

MOST_WORDS = 60
MOST_BEATS = 20000
DONE = "ok"


def numbers_in(things, bounds):
    """The numbers that the things of an order write, each within its bounds; NoOrder where they are not so."""
    if len(things) != len(bounds):
        raise NoOrder("the order has a thing more or less than it should")
    try:
        numbers = [read_number(thing) for thing in things]
    except NoText:
        raise NoOrder("there should be numbers") from None
    for number, (least, most) in zip(numbers, bounds):
        # None where no number is too great by itself.
        if number < least or most is not None and number > most:
            raise NoOrder("a number is out of its bounds")
    return numbers


def must_be_alone(things):
    """Refuses, with NoOrder, things behind an order that has none."""
    if things:
        raise NoOrder("nothing should stand behind the order")


def wipe(desk):
    """Takes all words and strikes away."""
    desk.speech = []
    desk.strikes = {}


def take_form(desk, things):
    """form BITS CHECK"""
    try:
        desk.form = read_form(" ".join(things))
    except NoText:
        raise NoOrder("there should be a form") from None
    wipe(desk)
    return DONE


def take_ear(desk, things):
    """ear OVER SPOT BESIDE"""
    try:
        desk.ear = read_ear(" ".join(things))
    except NoText:
        raise NoOrder("there should be an ear") from None
    return DONE


def take_pace(desk, things):
    """pace STEP RATE"""
    desk.step, desk.rate = numbers_in(things, ((1, MOST_TICKS), (1, MOST_TICKS)))
    wipe(desk)
    return DONE


def say(desk, things):
    """say BEGIN WORD"""
    begin, word = numbers_in(things, ((0, LAST_MOMENT), (0, None)))
    if not is_word(desk.form, word):
        raise NoWord("this is no word of the form")
    longer = [*desk.speech, (begin, word)]
    if len(longer) > MOST_WORDS or not is_speech(desk.form, desk.rate, longer):
        raise NoSpeech("the word may not stand behind the speech")
    desk.speech = longer
    return DONE


def strike(desk, things):
    """strike BEAT"""
    beat = numbers_in(things, ((0, MOST_BEATS),))[0]
    if beat in desk.strikes:
        del desk.strikes[beat]
    else:
        desk.strikes[beat] = True
    return DONE


def calm(desk, things):
    """calm"""
    must_be_alone(things)
    desk.strikes = {}
    return DONE


def tell_speech(desk, things):
    """speech"""
    must_be_alone(things)
    return show_speech(desk.speech)


def tell_line(desk, things):
    """line"""
    must_be_alone(things)
    changes = changes_of(desk.form, desk.rate, desk.speech)
    return " ".join([f"{moment}:{level}" for moment, level in changes]) or NOTHING


def tell_row(desk, things):
    """row FIRST MANY"""
    first, many = numbers_in(things, ((0, LAST_MOMENT), (0, MOST_BEATS)))
    row = row_by(changes_of(desk.form, desk.rate, desk.speech), (first, desk.step), many)
    return show_row(struck(row, list(desk.strikes)))


def show_heard(b, outcome):
    """BEAT=WORD or BEAT!WHY"""
    kind, what = outcome
    return f"{b}={what}" if kind == "word" else f"{b}!{what}"


def tell_heard(desk, things):
    """hear FIRST"""
    first = numbers_in(things, ((0, LAST_MOMENT),))[0]
    if not desk.speech:
        return NOTHING
    beats = (first, desk.step)
    if first > desk.speech[0][0]:
        raise NoBeat("the first beat lies behind the first begin")
    if beats_heard(desk.rate, desk.form, desk.ear, desk.speech, beats) > MOST_BEATS:
        raise NoBeat("there are more beats than may be heard")
    row = heard_row(desk.rate, desk.form, desk.ear, desk.speech, beats, list(desk.strikes))
    heard = hear(desk.form, desk.ear, row)[0]
    return " ".join([show_heard(b, outcome) for b, outcome in heard]) or NOTHING


def tell_sure(desk, things):
    """sure"""
    must_be_alone(things)
    return "yes" if is_sure(desk.form, desk.ear, desk.step, desk.rate) else "no"


def tell_rates(desk, things):
    """rates"""
    must_be_alone(things)
    rates = sure_rates(desk.form, desk.ear, desk.step)
    return "none" if rates is None else f"{rates[0]}-{rates[1]}"


def tell_spare(desk, things):
    """spare"""
    must_be_alone(things)
    ticks = spare(desk.form, desk.ear, desk.step, desk.rate)
    return " ".join([f"{early}/{late}" for early, late in ticks])


ORDERS = {
    "form": take_form,
    "ear": take_ear,
    "pace": take_pace,
    "say": say,
    "strike": strike,
    "calm": calm,
    "speech": tell_speech,
    "line": tell_line,
    "row": tell_row,
    "hear": tell_heard,
    "sure": tell_sure,
    "rates": tell_rates,
    "spare": tell_spare,
}


class Desk:
    """A form, an ear, a step, a rate, a speech and struck beats, and the orders that change and show them."""

    def __init__(self):
        self.form = (8, "none")
        self.ear = (16, 8, 1)
        self.step = 1
        self.rate = 16
        self.speech = []
        # A dict of True, since an object may not keep a set.
        self.strikes = {}

    def told(self, order):
        """Carries out an order, and tells its answer."""
        if not isinstance(order, str):
            raise NoOrder("an order is a text")
        name, *things = order.split(" ")
        if name not in ORDERS:
            raise NoOrder("there is no such order")
        action = ORDERS[name]
        return action(self, things)
