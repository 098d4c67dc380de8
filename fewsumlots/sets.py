"""Sets: rising tuples of whole numbers, moved, grown and brought to their form."""

from fewsumlots.errors import NoNumber, NoSet

MOST_NUMBERS = 60


def is_whole(thing):
    """Tell of anything whether it is a whole number."""
    # True and False are ints to Python, but no whole numbers here.
    return isinstance(thing, int) and not isinstance(thing, bool)


def are_whole(things):
    """Tell of a list or tuple of anything whether it holds whole numbers only."""
    return all(is_whole(thing) for thing in things)


def is_whole_list(thing, many):
    """Tell of anything whether it is a list of so many whole numbers."""
    return isinstance(thing, list) and len(thing) == many and are_whole(thing)


def is_whole_tuple(thing, many):
    """Tell of anything whether it is a tuple of so many whole numbers."""
    return isinstance(thing, tuple) and len(thing) == many and are_whole(thing)


def is_set(thing):
    """Tell of anything whether it is a set, of however many numbers."""
    if not isinstance(thing, tuple):
        return False
    # Kinds go first: things of other kinds may not be comparable at all.
    if not are_whole(thing):
        return False
    return all(low < high for low, high in zip(thing, thing[1:]))


def need_set(thing):
    """Refuse with NoSet what is no set that may be handed in."""
    if not is_set(thing):
        raise NoSet("not a rising tuple of whole numbers")
    if len(thing) > MOST_NUMBERS:
        raise NoSet("a set of more than sixty numbers")


def need_sets(one, other):
    """Refuse with NoSet as need_set does, the first one ahead of the second."""
    need_set(one)
    need_set(other)


def need_numbers(some):
    """Refuse with NoNumber a set that has none."""
    if not some:
        raise NoNumber("a set without numbers")


def set_of(things):
    """Tell the set of a list of whole numbers."""
    if not isinstance(things, list):
        raise NoSet("not a list of whole numbers")
    # Kinds go first: as a member True would be taken for 1, and a list could be none.
    if not are_whole(things):
        raise NoSet("a list with a thing in it that is no whole number")
    told = tuple(sorted(set(things)))
    if len(told) > MOST_NUMBERS:
        raise NoSet("a list of more than sixty unlike numbers")
    return told


def moved(some, by):
    """Tell the set each of whose numbers is so much more."""
    need_set(some)
    return tuple(number + by for number in some)


def grown(some, by):
    """Tell the set each of whose numbers is so many times as much."""
    need_set(some)
    # Below 0 the order turns over, and by 0 all numbers fall together.
    return tuple(sorted({number * by for number in some}))


def common_divisor(one, other):
    """Tell the greatest number that divides two numbers from 0 on; where one is 0, the other one."""
    while other:
        one, other = other, one % other
    return one


def divisor_of_all(numbers):
    """Tell the greatest number that divides all of some numbers from 0 on; 0 where they are noughts."""
    divisor = 0
    for number in numbers:
        divisor = common_divisor(divisor, number)
    return divisor


def form(some):
    """Tell the form of a set, the same however it is moved, grown or turned over."""
    need_set(some)
    if len(some) < 2:
        return (0,) if some else ()
    gaps = [number - some[0] for number in some]
    divisor = divisor_of_all(gaps)
    upright = tuple(gap // divisor for gap in gaps)
    turned = tuple(upright[-1] - number for number in reversed(upright))
    return min(upright, turned)
