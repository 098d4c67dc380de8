"""Chains of rising sums of two sets, and when the sums are more than a chain has."""

from fewsumlots.rows import row_around
from fewsumlots.sets import is_whole_tuple, need_numbers, need_sets


def need_sets_with_numbers(one, other):
    """Refuse with NoSet what is no set, then with NoNumber a set that has none."""
    need_sets(one, other)
    need_numbers(one)
    need_numbers(other)


def chain(one, other):
    """Tell a chain of two sets: up the one first, then up the other."""
    need_sets_with_numbers(one, other)
    return [(a, other[0]) for a in one] + [(one[-1], b) for b in other[1:]]


def goes_up(one, other, links):
    """Tell of pairs of whole numbers whether they begin and go on as a chain does."""
    if links[0] != (one[0], other[0]):
        return False
    at, to = 0, 0
    for a, b in links[1:]:
        # A slice past the end has nothing in it, so behind the greatest number nothing comes next.
        if (a,) == one[at + 1:at + 2] and b == other[to]:
            at += 1
        elif (b,) == other[to + 1:to + 2] and a == one[at]:
            to += 1
        else:
            return False
    return True


def is_chain(one, other, thing):
    """Tell of anything whether it is a chain of two sets."""
    need_sets_with_numbers(one, other)
    if not isinstance(thing, list) or len(thing) != len(one) + len(other) - 1:
        return False
    if not all(is_whole_tuple(pair, 2) for pair in thing):
        return False
    return goes_up(one, other, thing)


def even_step(some):
    """Tell the step of a set that is an even row, None where it is none."""
    row = row_around(some)
    return row[1] if row[2] == len(some) else None


def pair_beside(one, other, links):
    """Tell a pair whose sum is none of a chain's sums, of two sets that are no rows of one step."""
    taken = {a + b: True for a, b in links}
    return [(a, b) for a in one for b in other if a + b not in taken][0]


def just(one, other):
    """Tell why two sets have no more sums than a chain, or a chain and a pair that show they have."""
    need_sets_with_numbers(one, other)
    if len(one) == 1 or len(other) == 1:
        return ("one",)
    step = even_step(one)
    if step is not None and step == even_step(other):
        return ("rows", step)
    # Any chain will do: there are more sums than a chain has, so each chain leaves one out.
    links = chain(one, other)
    return ("more", links, pair_beside(one, other, links))


def shows_more(one, other, thing):
    """Tell of anything whether it is a chain and a pair whose sum is none of the chain's."""
    need_sets_with_numbers(one, other)
    if not isinstance(thing, tuple) or len(thing) != 2:
        return False
    links, pair = thing
    if not is_chain(one, other, links) or not is_whole_tuple(pair, 2):
        return False
    if pair[0] not in one or pair[1] not in other:
        return False
    return sum(pair) not in [a + b for a, b in links]
