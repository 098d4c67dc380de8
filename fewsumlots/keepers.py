"""Keepers of sets of a round, sets filled by them, and how few sums two sets can have there."""

from fewsumlots.errors import NoNumber
from fewsumlots.rounds import need_round, need_round_and_set, round_sums, round_turned
from fewsumlots.sets import is_whole


def divisors(m):
    """Tell all numbers from 1 on that divide a number, rising."""
    return [step for step in range(1, m + 1) if m % step == 0]


def keeper(m, some):
    """Tell the least number from 1 on by which a set of a round, turned, is itself."""
    need_round_and_set(m, some)
    return [step for step in divisors(m) if round_turned(m, some, step) == some][0]


def filled(m, some, step):
    """Tell a set of a round with all of its numbers turned by a step, twice the step, and so on."""
    need_round_and_set(m, some)
    if not is_whole(step) or step not in divisors(m):
        raise NoNumber("not a number from 1 on that divides the size of the round")
    # The step divides the size, so turns by it keep what is left when a number is divided by it.
    left = {number % step: True for number in some}
    return tuple(number for number in range(m) if number % step in left)


def kept_sums(m, one, other):
    """Tell how many sums two sets of a round have, their keeper, and how many both have when filled by it."""
    told = round_sums(m, one, other)
    step = keeper(m, told)
    return (len(told), step, len(filled(m, one, step)), len(filled(m, other, step)))


def need_many_of_round(m, many):
    """Refuse with NoNumber what is no number from 1 to the size of a round."""
    if not is_whole(many) or many < 1 or many > m:
        raise NoNumber("not a whole number from 1 to the size of the round")


def times_needed(many, h):
    """Tell how many times h is needed for so many."""
    return (many + h - 1) // h


def set_by_lots(m, many, h):
    """Tell a set of so many numbers in as few lots as can be, each of h numbers even around the round."""
    step = m // h
    numbers = [lot + step * place for lot in range(times_needed(many, h)) for place in range(h)]
    return tuple(sorted(numbers[:many]))


def fewest_sums(m, many, other):
    """Tell how few sums two sets of so many numbers of a round can have, and two such sets."""
    need_round(m)
    need_many_of_round(m, many)
    need_many_of_round(m, other)
    h = min(divisors(m), key=lambda size: size * (times_needed(many, size) + times_needed(other, size) - 1))
    # Lots lie beside one another, so the sums lie in as many lots as the best number of them tells.
    first, second = set_by_lots(m, many, h), set_by_lots(m, other, h)
    return (len(round_sums(m, first, second)), first, second)
