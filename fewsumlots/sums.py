"""Sums and differences of two sets, how often each comes, and the runs of a set."""

from fewsumlots.errors import NoNumber, NoSum
from fewsumlots.sets import is_whole, need_set, need_sets

MOST_FOLDS = 6


def all_sums(one, other):
    """Tell the sums of two sets of however many numbers."""
    return tuple(sorted({a + b for a in one for b in other}))


def sums(one, other):
    """Tell all sums of a number of the one set and one of the other."""
    need_sets(one, other)
    return all_sums(one, other)


def differences(one, other):
    """Tell all that is left of a number of the one when one of the other is taken away."""
    need_sets(one, other)
    return tuple(sorted({a - b for a in one for b in other}))


def few_sums(some):
    """Tell the sums of two unlike numbers of a set."""
    need_set(some)
    return tuple(sorted({a + b for at, a in enumerate(some) for b in some[:at]}))


def fold_sums(some, k):
    """Tell all sums of k numbers of a set, each as often as one likes."""
    need_set(some)
    if not is_whole(k) or k < 0 or k > MOST_FOLDS:
        raise NoNumber("not a whole number from 0 to 6")
    told = (0,)
    for fold in range(k):
        # What was told so far may have more numbers than may be handed in.
        told = all_sums(told, some)
    return told


def ways(one, other):
    """Tell how many pairs come to each sum of two sets."""
    need_sets(one, other)
    told = {number: 0 for number in all_sums(one, other)}
    for a in one:
        for b in other:
            told[a + b] += 1
    return told


def pairs(one, other, number):
    """Tell the pairs of two sets that come to a sum of them."""
    need_sets(one, other)
    # True equals 1, but is no sum.
    if not is_whole(number):
        raise NoSum("not a whole number")
    told = [(a, b) for a in one for b in other if a + b == number]
    if not told:
        raise NoSum("not a sum of the two sets")
    return told


def fourfold(one, other):
    """Tell how many tuples (a, b, c, d) there are with a and b coming to what c and d do."""
    # Two pairs of one sum make such a tuple, so no tuples need be gone through.
    return sum([many * many for many in ways(one, other).values()])


def runs(some, step):
    """Tell the even rows of this step, as few as can be, into which a set is parted."""
    need_set(some)
    if not is_whole(step) or step < 1:
        raise NoNumber("not a whole number from 1 on")
    first_of = {}
    many_of = {}
    # A number whose forerunner is in the set must join its row, else there would be one row more.
    for number in some:
        first = first_of.get(number - step, number)
        first_of[number] = first
        many_of[first] = many_of.get(first, 0) + 1
    return list(many_of.items())
