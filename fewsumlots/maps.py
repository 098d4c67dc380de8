"""Maps that keep sums, the ties that they keep, and how free a set's maps are."""

from fewsumlots.errors import NoMap, TooMany
from fewsumlots.ranks import are_free, led_by_one_more, rows_against
from fewsumlots.sets import is_whole_list, is_whole_tuple, need_set

MOST_WITH_PAPERS = 24


def keeps_sums(some, thing):
    """Tell of anything whether it is a map of the set that keeps sums."""
    need_set(some)
    if not is_whole_list(thing, len(some)):
        return False
    led = {}
    for a, x in zip(some, thing):
        for b, y in zip(some, thing):
            if led.setdefault(a + b, x + y) != x + y:
                return False
    return True


def ties(some):
    """Tell all ties of a set, rising."""
    need_set(some)
    pairs_of = {}
    for at, low in enumerate(some):
        for high in some[at:]:
            pairs_of.setdefault(low + high, []).append((low, high))
    # The pairs of one sum stand from the widest to the narrowest.
    return sorted([
        wide + narrow
        for same in pairs_of.values() for at, wide in enumerate(same) for narrow in same[at + 1:]
    ])


def broken_tie(some, values):
    """Tell the first tie that a map breaks, None where it keeps sums."""
    need_set(some)
    if not is_whole_list(values, len(some)):
        raise NoMap("not a list of whole numbers, one for each number of the set")
    led = dict(zip(some, values))
    for tie in ties(some):
        a, b, c, d = tie
        if led[a] + led[b] != led[c] + led[d]:
            return tie
    return None


def need_few(some):
    """Refuse with NoSet what is no set, then with TooMany one that is too large for papers."""
    need_set(some)
    if len(some) > MOST_WITH_PAPERS:
        raise TooMany("a set of more than twenty-four numbers")


def tie_row(some, tie):
    """Tell a tie as a row: how often each number stands among the first two, less among the last two."""
    return [tie[:2].count(number) - tie[2:].count(number) for number in some]


def free_ties(some):
    """Tell ties, as many as can be, none of them a sum of fractions of the others, and their leads."""
    leads = {}
    kept = []
    for tie in ties(some):
        more = led_by_one_more(leads, tie_row(some, tie))
        if more is not None:
            leads = more
            kept.append(tie)
    return kept, leads


def freedom(some):
    """Tell how many maps that keep sums there are at most, none a sum of fractions of the others."""
    need_few(some)
    # A map keeps sums where it comes to 0 with each tie, so each free tie takes one map away.
    return len(some) - len(free_ties(some)[0])


def free_paper(some):
    """Tell maps and ties that together show the freedom of a set."""
    need_few(some)
    kept, leads = free_ties(some)
    return (rows_against(leads, len(some)), kept)


def is_tie(some, thing):
    """Tell of anything whether it is a tie of the set."""
    if not is_whole_tuple(thing, 4) or not all(number in some for number in thing):
        return False
    a, b, c, d = thing
    return a + b == c + d and a < c and c <= d and d < b


def is_free_paper(some, thing):
    """Tell of anything whether it is a paper of the set's freedom."""
    need_few(some)
    if not isinstance(thing, tuple) or len(thing) != 2:
        return False
    maps, kept = thing
    if not isinstance(maps, list) or not isinstance(kept, list):
        return False
    if len(maps) + len(kept) != len(some):
        return False
    if not all(keeps_sums(some, values) for values in maps) or not all(is_tie(some, tie) for tie in kept):
        return False
    return are_free(maps) and are_free([tie_row(some, tie) for tie in kept])
