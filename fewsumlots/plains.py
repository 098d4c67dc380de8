"""Plain sets, which have no tie, the shortest rulers, and plain sets led on."""

from fewsumlots.errors import NoNumber, NoSet
from fewsumlots.maps import ties
from fewsumlots.sets import is_whole

MOST_MARKS = 6
MOST_LED_ON = 24


def first_tie(some):
    """Tell the first tie of a set, None where it is plain."""
    told = ties(some)
    return told[0] if told else None


def is_plain(some):
    """Tell whether a set has no tie."""
    return first_tie(some) is None


def numbers_with_ties(some):
    """Tell, as a dict of True, the numbers above a plain set with which it would have a tie."""
    # A number above all can only be the greatest one of a tie; the other three are of the set.
    return {c + d - a: True for at, c in enumerate(some) for a in some[:at] for d in some[at:]}


def plain_marks(ruler, length):
    """Tell the numbers above a ruler, up to a length, with which it is plain."""
    barred = numbers_with_ties(ruler)
    return [number for number in range(ruler[-1] + 1, length + 1) if number not in barred]


def rulers(marks, length):
    """Tell all rulers of so many marks and of this length, as tuples are ordered."""
    told = [(0,)]
    for mark in range(1, marks):
        told = [ruler + (number,) for ruler in told for number in plain_marks(ruler, length)]
    return [ruler for ruler in told if ruler[-1] == length]


def shortest_ruler(marks):
    """Tell the first ruler of so many marks of the least length."""
    if not is_whole(marks) or marks < 1 or marks > MOST_MARKS:
        raise NoNumber("not a whole number from 1 to 6")
    # All differences of two marks are unlike, so the length is as great as these are many at least.
    length = marks * (marks - 1) // 2
    while not rulers(marks, length):
        length += 1
    return rulers(marks, length)[0]


def next_plain(some):
    """Tell the least number above a plain set with which it is plain, 0 where it has none."""
    if not some:
        return 0
    barred = numbers_with_ties(some)
    number = some[-1] + 1
    while number in barred:
        number += 1
    return number


def led_on(some, many):
    """Tell a plain set with so many numbers more, each the least above all with which it is plain."""
    if not is_plain(some):
        raise NoSet("a set that is not plain")
    if not is_whole(many) or many < 0 or len(some) + many > MOST_LED_ON:
        raise NoNumber("not a whole number from 0 on, of 24 numbers at most in all")
    for place in range(many):
        some = some + (next_plain(some),)
    return some
