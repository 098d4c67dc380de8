"""Even rows, the row around a set, and weights that show that no row of few numbers holds it."""

from fewsumlots.errors import NoNumber, NoRow
from fewsumlots.sets import (
    MOST_NUMBERS, divisor_of_all, is_whole, is_whole_list, is_whole_tuple, need_numbers, need_set,
)


def is_row(thing):
    """Tell of anything whether it is an even row, of however many numbers."""
    return is_whole_tuple(thing, 3) and thing[1] >= 1 and thing[2] >= 1


def row_set(row):
    """Tell the set of an even row."""
    if not is_row(row):
        raise NoRow("not a tuple of first, step and many, both from 1 on")
    first, step, many = row
    if many > MOST_NUMBERS:
        raise NoRow("an even row of more than sixty numbers")
    return tuple(first + step * place for place in range(many))


def gaps_of(some):
    """Tell what is left of each number but the first when the first is taken away."""
    return [number - some[0] for number in some[1:]]


def row_around(some):
    """Tell the even row of as few numbers as can be from a set's least number to its greatest."""
    need_set(some)
    need_numbers(some)
    gaps = gaps_of(some)
    if not gaps:
        return (some[0], 1, 1)
    # The step of any row that holds the set divides all gaps, so the greatest such step is best.
    step = divisor_of_all(gaps)
    return (some[0], step, gaps[-1] // step + 1)


def need_set_and_most(some, most):
    """Refuse what near refuses."""
    need_set(some)
    need_numbers(some)
    if not is_whole(most) or most < 1:
        raise NoNumber("not a whole number from 1 on")


def shares(one, other):
    """Tell the greatest divisor of two numbers, and how often each is taken to come to it together."""
    first, second = (one, 1, 0), (other, 0, 1)
    while second[0]:
        times = first[0] // second[0]
        first, second = second, tuple(a - times * b for a, b in zip(first, second))
    return first


def weighed(weights, gaps):
    """Tell what the gaps come to, each so often as its weight tells."""
    return sum([weight * gap for weight, gap in zip(weights, gaps)])


def weights_of_step(gaps):
    """Tell weights by which gaps come to the greatest number that divides all of them."""
    greatest = gaps[-1]
    step = greatest
    weights = []
    for gap in gaps[:-1]:
        step, often, times = shares(step, gap)
        # Only what is left by the greatest gap counts, as its own weight is told last; without this
        # the weights of many far numbers would grow with each gap.
        weights = [weight * often % greatest for weight in weights] + [times]
    rest = step - weighed(weights, gaps)
    return weights + [rest // greatest]


def near(some, most):
    """Tell the row around a set where it has at most so many numbers, else weights that show it has not."""
    need_set_and_most(some, most)
    row = row_around(some)
    if row[2] <= most:
        return ("row", row)
    return ("weights", weights_of_step(gaps_of(some)))


def shows_far(some, most, thing):
    """Tell of anything whether it is weights that show that no row of so few numbers holds the set."""
    need_set_and_most(some, most)
    gaps = gaps_of(some)
    if not is_whole_list(thing, len(gaps)):
        return False
    held = weighed(thing, gaps)
    return held > 0 and (most - 1) * held < some[-1] - some[0]
