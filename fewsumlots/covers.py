"""Covers of a set by turns of another one, spreads, and covers by differences."""

from fewsumlots.errors import TooMany
from fewsumlots.sets import is_set, is_whole_tuple, need_numbers, need_sets

MOST_COVERED = 10


def need_turns(one, other):
    """Refuse with NoSet what is no set, then with NoNumber a second set that has none."""
    need_sets(one, other)
    need_numbers(other)


def need_few_and_turns(one, other):
    """Refuse as need_turns does, then with TooMany a first set that is too large to try all."""
    need_turns(one, other)
    if len(one) > MOST_COVERED:
        raise TooMany("a first set of more than ten numbers")


def turns_by_lot(one, other):
    """Tell, for each lot of the first set's numbers that a turn of the second holds, one such turn.

    A lot is a number that has a bit for each place of the first set.
    """
    bits = {number: 1 << place for place, number in enumerate(one)}
    turns = {}
    for turn in [a - b for a in one for b in other]:
        lot = sum([bits.get(turn + b, 0) for b in other])
        turns[lot] = turn
    return turns


def one_turn_more(layer, turns):
    """Tell what may be left of each lot in the layer by one turn more, and the turns that left it."""
    told = {}
    for left in layer:
        # Some turn must hold the first number that is left, so those that hold it are enough.
        first = left & -left
        for lot in turns:
            if lot & first:
                told[left - (left & lot)] = layer[left] + (turns[lot],)
    return told


def cover(one, other):
    """Tell a cover of the first set by the second that has as few numbers as can be."""
    need_few_and_turns(one, other)
    turns = turns_by_lot(one, other)
    layer = {(1 << len(one)) - 1: ()}
    while 0 not in layer:
        layer = one_turn_more(layer, turns)
    return tuple(sorted(layer[0]))


def is_cover(one, other, thing):
    """Tell of anything whether it is a cover of the first set by the second."""
    need_turns(one, other)
    if not is_set(thing):
        return False
    turns = {turn: True for turn in thing}
    return all(any(number - b in turns for b in other) for number in one)


def pairs_by_difference(other):
    """Tell, for each difference of a set with itself, a pair that has it."""
    return {b - c: (b, c) for b in other for c in other}


def stands_apart(number, others, gaps):
    """Tell whether a number lies in one turn with none of the others, by the differences of a turn."""
    return all(number - x not in gaps for x in others)


def spread(one, other):
    """Tell a spread of the first set by the second that has as many numbers as can be."""
    need_few_and_turns(one, other)
    gaps = pairs_by_difference(other)
    spreads = [()]
    for number in one:
        spreads = spreads + [some + (number,) for some in spreads if stands_apart(number, some, gaps)]
    return max(spreads, key=len)


def is_spread(one, other, thing):
    """Tell of anything whether it is a spread of the first set by the second."""
    need_turns(one, other)
    if not is_set(thing) or not all(number in one for number in thing):
        return False
    gaps = pairs_by_difference(other)
    return all(stands_apart(number, thing[:place], gaps) for place, number in enumerate(thing))


def cover_by_differences(one, other):
    """Tell a spread of the first set, and how each number of it is reached from the spread."""
    need_turns(one, other)
    gaps = pairs_by_difference(other)
    chosen = []
    rows = []
    for number in one:
        # A number that stands apart joins the spread, so each other one is within reach of it.
        if stands_apart(number, chosen, gaps):
            chosen.append(number)
        x = [known for known in chosen if number - known in gaps][0]
        rows.append((x,) + gaps[number - x])
    return (tuple(chosen), rows)


def reaches(chosen, other, row, number):
    """Tell of anything whether it is a row by which a number is reached from the spread."""
    if not is_whole_tuple(row, 3):
        return False
    x, b, c = row
    return x in chosen and b in other and c in other and x + b - c == number


def cover_by_differences_holds(one, other, thing):
    """Tell of anything whether it is a cover by differences of the first set by the second."""
    need_turns(one, other)
    if not isinstance(thing, tuple) or len(thing) != 2:
        return False
    chosen, rows = thing
    if not is_spread(one, other, chosen):
        return False
    if not isinstance(rows, list) or len(rows) != len(one):
        return False
    return all(reaches(chosen, other, row, number) for row, number in zip(rows, one))
