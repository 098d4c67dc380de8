"""Sums in a round: the numbers 0 to m - 1, led back by m where they are beyond it."""

from fewsumlots.errors import NoNumber, NoRound, NoSet
from fewsumlots.sets import is_set, is_whole

MOST_SIZE = 40


def need_round(m):
    """Refuse with NoRound what is no size of a round."""
    if not is_whole(m) or m < 1 or m > MOST_SIZE:
        raise NoRound("not a whole number from 1 to 40")


def need_set_of_round(m, thing):
    """Refuse with NoSet what is no set of the round of a size that is one."""
    if not is_set(thing):
        raise NoSet("not a rising tuple of whole numbers")
    if thing and (thing[0] < 0 or thing[-1] >= m):
        raise NoSet("a set with a number that is not of the round")


def need_round_and_set(m, some):
    """Refuse with NoRound what is no size, then with NoSet what is no set of the round."""
    need_round(m)
    need_set_of_round(m, some)


def need_round_and_sets(m, one, other):
    """Refuse as need_round_and_set does, the first set ahead of the second."""
    need_round_and_set(m, one)
    need_set_of_round(m, other)


def round_sums(m, one, other):
    """Tell the sums of two sets of a round, as a set of the round."""
    need_round_and_sets(m, one, other)
    return tuple(sorted({(a + b) % m for a in one for b in other}))


def round_ways(m, one, other):
    """Tell for each number of a round how many pairs of two sets have it as their sum."""
    need_round_and_sets(m, one, other)
    told = [0] * m
    for a in one:
        for b in other:
            told[(a + b) % m] += 1
    return told


def round_turned(m, some, by):
    """Tell a set of a round each of whose numbers is so much more, led back into the round."""
    need_round_and_set(m, some)
    if not is_whole(by):
        raise NoNumber("not a whole number")
    return tuple(sorted([(number + by) % m for number in some]))
