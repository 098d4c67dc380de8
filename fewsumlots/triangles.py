"""Picks of two sets, one for each difference, and the pairs that a third set is led to by them."""

from fewsumlots.errors import NoNumber
from fewsumlots.sets import is_whole_tuple, need_set, need_sets
from fewsumlots.sums import differences


def picks(one, other):
    """Tell picks of two sets: for each of their differences a number of either that have it."""
    need_sets(one, other)
    pair_of = {b - c: (b, c) for b in one for c in other}
    return [(d,) + pair_of[d] for d in sorted(pair_of)]


def is_pick(one, other, thing, d):
    """Tell of anything whether it is a pick of two sets for this difference."""
    if not is_whole_tuple(thing, 3):
        return False
    b, c = thing[1:]
    return thing[0] == d and b in one and c in other and b - c == d


def are_picks(one, other, thing):
    """Tell of anything whether it is picks of two sets."""
    gaps = differences(one, other)
    if not isinstance(thing, list) or len(thing) != len(gaps):
        return False
    return all(is_pick(one, other, row, d) for row, d in zip(thing, gaps))


def led_pairs(first, one, other, some):
    """Tell for each number of the first set and each pick what is left of the number by either part."""
    need_set(first)
    if not are_picks(one, other, some):
        raise NoNumber("not picks of the two sets")
    return [(x - b, x - c) for x in first for d, b, c in some]
