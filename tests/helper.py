"""What several test files share: odd things, many small sets, and the check of a refusal."""

import itertools
import unittest

from fewsumlots import errors

REFUSALS = (
    errors.NoSet,
    errors.NoNumber,
    errors.NoSum,
    errors.NoRow,
    errors.NoRound,
    errors.NoMap,
    errors.TooMany,
    errors.NoText,
    errors.NoDeed,
)

FAR = 10 ** 29 + 7

SIXTY = tuple(range(60))
SIXTY_ONE = tuple(range(61))


def things_that_are_no_numbers():
    return [
        None, True, False, "", "1", "two", b"", b"1", 1.0, 0.5, 1j, float("nan"), float("inf"),
        [], [1], (), (1,), {}, {1: 1}, {1}, frozenset([1]), range(1), object(), object, int, len,
        iter([1]), NotImplemented, ...,
    ]


def things_that_are_no_tuples():
    return [
        None, True, False, 0, 1, -1, FAR, "", "12", "-", b"", b"12", 1.0, float("nan"),
        [], [1], [1, 2], {}, {1: 2}, set(), {1, 2}, frozenset([1]), range(3), bytearray(b"12"),
        object(), object, tuple, len, iter((1, 2)), (number for number in (1, 2)), ...,
    ]


def things_that_are_no_sets():
    return things_that_are_no_tuples() + [
        (1, 1), (0, 0), (2, 1), (1, 3, 2), (1, 2, 2), (FAR, -FAR), (1, 2, 3, 0),
        (True,), (False,), (0, True), (False, 1), (-1, False, 1), (0, 1, True), (True, 2),
        ("1",), ("",), (1, "2"), ("1", 2), (b"1",), (None,), (None, 1), (1, None),
        ([],), ([1],), (1, [2]), ((),), ((1,),), (1, (2,)), ((1, 2), (3, 4)), ({},), ({1},),
        (1.0,), (1, 2.0), (0.5, 1), (float("nan"),), (1, float("inf")), (object(),), (int,),
    ]


def small_sets(low, high, most):
    """All sets of at most so many of the numbers low to high."""
    numbers = range(low, high + 1)
    return [some for many in range(most + 1) for some in itertools.combinations(numbers, many)]


def scattered_sets():
    """Sets of many sizes with gaps of many sizes, the same in each run."""
    told = []
    seed = 12345
    for many in (0, 1, 2, 3, 5, 8, 12, 20, 37, 60):
        for spread in (3, 50, 10 ** 6, 10 ** 28):
            numbers = []
            at = -spread
            for _ in range(many):
                seed = (seed * 6364136223846793005 + 1442695040888963407) % 2 ** 64
                at += 1 + (seed >> 11) * spread // 2 ** 53
                numbers.append(at)
            told.append(tuple(numbers))
    return told


def spoil(thing):
    """Change each list and dict in a thing, those within others too."""
    if isinstance(thing, (list, tuple)):
        for part in thing:
            spoil(part)
    if isinstance(thing, list):
        thing.reverse()
        thing.append("spoilt")
    if isinstance(thing, dict):
        for part in thing.values():
            spoil(part)
        thing.clear()
        thing["spoilt"] = "spoilt"


def sets_of_many_forms():
    """None, one, two and many numbers, even rows, rows with gaps, far numbers of either sign."""
    return [
        (), (0,), (-7,), (FAR,), (0, 1), (-5, 4), (-FAR, FAR), (0, 1, 2), (0, 1, 3), (-6, -2, 2, 6),
        (0, 2, 4, 10), (3, 10, 17, 31, 38), (0, 6, 10, 15), (1, 2, 4, 8, 16, 32), (-FAR, 0, FAR),
        (-FAR, -FAR + 1, 0, FAR), (FAR, 2 * FAR, 4 * FAR), tuple(range(-9, 9)), tuple(range(0, 40, 3)),
    ]


def sets_of_round(m):
    """All sets of a round."""
    return small_sets(0, m - 1, m)


def scattered_sets_of_round(m):
    """None, one, all, whole rows of each step that divides the size, and sets here and there."""
    told = [(), (0,), (m - 1,), tuple(range(m)), tuple(range(m - 1)), tuple(range(m // 2))]
    for step in [step for step in range(1, m + 1) if m % step == 0]:
        told += [tuple(range(0, m, step)), tuple(range(step - 1, m, step)), tuple(range(0, m, step))[1:]]
    seed = 54321 + m
    for _ in range(6):
        seed = (seed * 6364136223846793005 + 1442695040888963407) % 2 ** 64
        told.append(tuple(number for number in range(m) if seed >> (number + 11) & 1))
    return sorted(set(told))


def things_of_other_kinds():
    """Things that are none of whatever is asked for."""
    told = things_that_are_no_numbers() + things_that_are_no_tuples() + [5, (1, 2, 3), [None], (None, None)]
    endless = []
    endless.append(endless)
    return told + [endless, (endless, endless), [[], []], [()], ([], ()), ((), ()), ([True], [True])]


def bent_number(number):
    return [
        number + 1, number - 1, -number, 2 * number + 3, number + FAR, True, False, None, str(number),
        float(number), [number], (number,),
    ]


def bent_whole(thing):
    """A list or tuple of the other kind, with a part out or twice, or two parts exchanged."""
    kind = type(thing)
    parts = list(thing)
    other_kind = tuple if kind is list else list
    told = [other_kind(parts), {at: part for at, part in enumerate(parts)}, None, repr(parts), len(parts)]
    told += [kind(parts[:at] + parts[at + 1:]) for at in range(len(parts))]
    told += [kind(parts[:at] + parts[at:at + 1] + parts[at:]) for at in range(len(parts))]
    told += [kind(parts + [extra]) for extra in (0, None, [], ())]
    for low, high in itertools.combinations(range(len(parts)), 2):
        exchanged = list(parts)
        exchanged[low], exchanged[high] = parts[high], parts[low]
        told.append(kind(exchanged))
    return told


def bent(thing):
    """A thing of lists, tuples and numbers bent at each of its places, one place at a time."""
    if not isinstance(thing, (list, tuple)):
        return bent_number(thing)
    told = bent_whole(thing)
    kind = type(thing)
    for at, part in enumerate(thing):
        told += [kind([*thing[:at], other, *thing[at + 1:]]) for other in bent(part)]
    return told


class Case(unittest.TestCase):
    def assert_refused(self, refusal, ask, *things):
        """The refusal is of this very class, under SetError and ValueError, and under no other."""
        with self.subTest(ask=ask, things=things):
            with self.assertRaises(ValueError) as caught:
                ask(*things)
            error = caught.exception
            self.assertIs(type(error), refusal)
            self.assertIsInstance(error, errors.SetError)
            for other in REFUSALS:
                if other is not refusal:
                    self.assertNotIsInstance(error, other)
            return str(error)

    def assert_needs_set(self, ask):
        """What is no set is refused ahead of all else."""
        for thing in things_that_are_no_sets() + [SIXTY_ONE, tuple(range(0, 9000, 3))]:
            self.assert_refused(errors.NoSet, ask, thing)

    def assert_needs_sets(self, ask):
        """What is no set is refused ahead of all else, of two the first one ahead of the second."""
        for thing in things_that_are_no_sets() + [SIXTY_ONE, tuple(range(0, 9000, 3))]:
            for some in ((), (0,), (0, 1, 5), SIXTY):
                self.assert_refused(errors.NoSet, ask, thing, some)
                self.assert_refused(errors.NoSet, ask, some, thing)
        too_many = self.assert_refused(errors.NoSet, ask, SIXTY_ONE, ())
        no_set = self.assert_refused(errors.NoSet, ask, None, ())
        self.assertNotEqual(too_many, no_set)
        self.assertEqual(self.assert_refused(errors.NoSet, ask, SIXTY_ONE, None), too_many)
        self.assertEqual(self.assert_refused(errors.NoSet, ask, None, SIXTY_ONE), no_set)

    def assert_needs_round(self, ask):
        """What is no size of a round is refused ahead of all else."""
        for thing in things_that_are_no_numbers() + [0, -1, 41, 42, 1000, -40, FAR, -FAR, 40.0]:
            self.assert_refused(errors.NoRound, ask, thing)

    def assert_needs_set_of_round(self, ask):
        """What is no set of the round is refused, where the size is one."""
        for m in (1, 2, 12, 39, 40):
            outside = [(m,), (-1,), (0, m), (-1, 0), (FAR,), (-FAR, 0), (0, FAR), tuple(range(m + 1)), SIXTY_ONE]
            for thing in things_that_are_no_sets() + outside:
                self.assert_refused(errors.NoSet, ask, m, thing)

    def assert_answer(self, answer, ask, *things):
        """The answer is this truth itself, and what was handed in stays as it was."""
        with self.subTest(ask=ask, things=things):
            before = repr(things)
            self.assertIs(ask(*things), answer)
            self.assertEqual(repr(things), before)

    def assert_own(self, ask, *things):
        """What is told is made anew each time: whatever is done to it, the next answer is the same."""
        with self.subTest(ask=ask, things=things):
            before = repr(things)
            told = ask(*things)
            first = repr(told)
            spoil(told)
            self.assertEqual(repr(ask(*things)), first)
            self.assertEqual(repr(things), before)

    def assert_set(self, told):
        """What was told is a set, by the words of point 10."""
        self.assertIs(type(told), tuple)
        for number in told:
            self.assertIs(type(number), int)
        for low, high in zip(told, told[1:]):
            self.assertLess(low, high)

    def assert_told_set(self, told, numbers):
        """What was told is the set of just these numbers."""
        self.assert_set(told)
        self.assertEqual(told, tuple(sorted(set(numbers))))
