"""Sets that are alike by their sums, and the sum form that such sets share."""

from fewsumlots.errors import TooMany
from fewsumlots.sets import need_set, need_sets

MOST_IN_ORDERS = 6


def need_few_to_order(some):
    """Refuse with TooMany a set that has too many orders to try all."""
    if len(some) > MOST_IN_ORDERS:
        raise TooMany("a set of more than six numbers")


def orders(some):
    """Tell all orders of a set's numbers, each a tuple."""
    told = [()]
    for number in some:
        told = [order[:at] + (number,) + order[at:] for order in told for at in range(len(order) + 1)]
    return told


def numbered_sums(order):
    """Tell for each two places of an order the number of their sum, as sums first come."""
    number_of = {}
    told = []
    for at, a in enumerate(order):
        for b in order[at:]:
            told.append(number_of.setdefault(a + b, len(number_of)))
    return told


def likeness(one, other):
    """Tell a map that leads the one set to the other and keeps sums both ways, None where none does."""
    need_sets(one, other)
    need_few_to_order(one)
    need_few_to_order(other)
    # Sums numbered alike are sums that fall together alike, so the map keeps sums there and back.
    asked = numbered_sums(one)
    for order in orders(other):
        if numbered_sums(order) == asked:
            return list(order)
    return None


def sum_form(some):
    """Tell the sum form of a set, which sets have in common just where they are alike."""
    need_set(some)
    need_few_to_order(some)
    return min([numbered_sums(order) for order in orders(some)])
