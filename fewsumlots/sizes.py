"""How many sums sets of a size can have, with sets that have so many."""

from fewsumlots.errors import NoNumber, NoSum, TooMany
from fewsumlots.sets import is_whole
from fewsumlots.sums import sums

MOST_IN_SIZE = 24
MOST_WITHIN = 6
MOST_BOUND = 24
MOST_SETS = 3000


def need_number_to(thing, most):
    """Refuse with NoNumber what is no whole number from 0 to the most."""
    if not is_whole(thing) or thing < 0 or thing > most:
        raise NoNumber(f"not a whole number from 0 to {most}")


def ends_of_sums(many):
    """Tell how few and how many sums sets of so many numbers have."""
    need_number_to(many, MOST_IN_SIZE)
    return (max(0, 2 * many - 1), many * (many + 1) // 2)


def set_with_few_sums(many, number):
    """Tell a set of so many numbers with this number of sums, at most three times as many, less 3."""
    if many < 2:
        return tuple(range(many))
    # Behind an even row the last number stands off by so much as there are more sums than the fewest.
    return tuple(range(many - 1)) + (number - many,)


def set_with_sums(many, number):
    """Tell a set of so many numbers with just so many sums."""
    least, most = ends_of_sums(many)
    if not is_whole(number) or number < least or number > most:
        raise NoSum("not a number of sums that sets of this size have")
    size = many
    # A number beyond twice the greatest has as many sums of its own as there are then numbers.
    while size > 1 and number > 3 * size - 3:
        number -= size
        size -= 1
    told = set_with_few_sums(size, number)
    for place in range(many - size):
        told = told + (2 * told[-1] + 1,)
    return told


def number_of_sets(many, bound):
    """Tell how many sets of so many of the numbers 0 to the bound there are."""
    told = 1
    for place in range(many):
        told = told * (bound + 1 - place) // (place + 1)
    return told


def sets_within(many, bound):
    """Tell all sets of so many of the numbers 0 to the bound, as tuples are ordered."""
    told = [()]
    for place in range(many):
        told = [
            some + (number,)
            for some in told for number in range(some[-1] + 1 if some else 0, bound + 1)
        ]
    return told


def sums_within(many, bound):
    """Tell for each number of sums how many of the sets within a bound have it, and the first of them."""
    need_number_to(many, MOST_WITHIN)
    need_number_to(bound, MOST_BOUND)
    if number_of_sets(many, bound) > MOST_SETS:
        raise TooMany("more than 3000 sets to look at")
    first_with = {}
    sets_with = {}
    for some in sets_within(many, bound):
        number = len(sums(some, some))
        first_with.setdefault(number, some)
        sets_with[number] = sets_with.get(number, 0) + 1
    return [(number, sets_with[number], first_with[number]) for number in sorted(sets_with)]
