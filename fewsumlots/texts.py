"""Numbers, sets and even rows written as texts and read back."""

from fewsumlots.errors import NoText
from fewsumlots.rows import is_row
from fewsumlots.sets import MOST_NUMBERS, is_set

MOST_FIGURES = 60
FIGURES = "0123456789"
NO_NUMBERS = "-"


def shown_number(number):
    """Tell a whole number in figures, however many it has."""
    left = abs(number)
    lots = []
    # Python writes no more than some thousands of figures at once, so they are written lot by lot.
    while left >= 10 ** 60:
        left, lot = divmod(left, 10 ** 60)
        lots.append(str(lot).zfill(60))
    lots.append(str(left))
    sign = "-" if number < 0 else ""
    return sign + "".join(reversed(lots))


def shown_set(some):
    """Tell a set as a text."""
    return " ".join([shown_number(number) for number in some]) if some else NO_NUMBERS


def shown_row(row):
    """Tell an even row as a text."""
    return ":".join([shown_number(number) for number in row])


def is_number_text(text):
    """Tell of a text whether it is a whole number as it is written here."""
    figures = text.removeprefix("-")
    if not figures or len(figures) > MOST_FIGURES or not all(figure in FIGURES for figure in figures):
        return False
    return figures[0] != "0" or text == "0"


def numbers_read(text, between):
    """Tell the numbers that are written in anything with this sign between each two, as a tuple."""
    if not isinstance(text, str):
        raise NoText("not a text")
    words = text.split(between)
    if not all(is_number_text(word) for word in words):
        raise NoText("a text with a word in it that is not written as a number is")
    return tuple(int(word) for word in words)


def read_set(text):
    """Tell the set that is written in a text."""
    if isinstance(text, str) and text == NO_NUMBERS:
        return ()
    told = numbers_read(text, " ")
    if not is_set(told) or len(told) > MOST_NUMBERS:
        raise NoText("a text of numbers that are no set, or of more than sixty")
    return told


def read_row(text):
    """Tell the even row that is written in a text."""
    told = numbers_read(text, ":")
    if not is_row(told):
        raise NoText("a text of numbers that are no even row")
    return told
