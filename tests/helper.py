"""What several test files share: odd things, many small sets, and the check of a refusal."""

import itertools
import unittest

from fewsumlots import errors

REFUSALS = (
    errors.NoSet,
    errors.NoNumber,
    errors.NoSum,
    errors.NoRow,
    errors.NoRound,
    errors.NoMap,
    errors.TooMany,
    errors.NoText,
    errors.NoDeed,
)

FAR = 10 ** 29 + 7

SIXTY = tuple(range(60))
SIXTY_ONE = tuple(range(61))


def things_that_are_no_numbers():
    return [
        None, True, False, "", "1", "two", b"", b"1", 1.0, 0.5, 1j, float("nan"), float("inf"),
        [], [1], (), (1,), {}, {1: 1}, {1}, frozenset([1]), range(1), object(), object, int, len,
        iter([1]), NotImplemented, ...,
    ]


def things_that_are_no_tuples():
    return [
        None, True, False, 0, 1, -1, FAR, "", "12", "-", b"", b"12", 1.0, float("nan"),
        [], [1], [1, 2], {}, {1: 2}, set(), {1, 2}, frozenset([1]), range(3), bytearray(b"12"),
        object(), object, tuple, len, iter((1, 2)), (number for number in (1, 2)), ...,
    ]


def things_that_are_no_sets():
    return things_that_are_no_tuples() + [
        (1, 1), (0, 0), (2, 1), (1, 3, 2), (1, 2, 2), (FAR, -FAR), (1, 2, 3, 0),
        (True,), (False,), (0, True), (False, 1), (-1, False, 1), (0, 1, True), (True, 2),
        ("1",), ("",), (1, "2"), ("1", 2), (b"1",), (None,), (None, 1), (1, None),
        ([],), ([1],), (1, [2]), ((),), ((1,),), (1, (2,)), ((1, 2), (3, 4)), ({},), ({1},),
        (1.0,), (1, 2.0), (0.5, 1), (float("nan"),), (1, float("inf")), (object(),), (int,),
    ]


def small_sets(low, high, most):
    """All sets of at most so many of the numbers low to high."""
    numbers = range(low, high + 1)
    return [some for many in range(most + 1) for some in itertools.combinations(numbers, many)]


def scattered_sets():
    """Sets of many sizes with gaps of many sizes, the same in each run."""
    told = []
    seed = 12345
    for many in (0, 1, 2, 3, 5, 8, 12, 20, 37, 60):
        for spread in (3, 50, 10 ** 6, 10 ** 28):
            numbers = []
            at = -spread
            for _ in range(many):
                seed = (seed * 6364136223846793005 + 1442695040888963407) % 2 ** 64
                at += 1 + (seed >> 11) * spread // 2 ** 53
                numbers.append(at)
            told.append(tuple(numbers))
    return told


class Case(unittest.TestCase):
    def assert_refused(self, refusal, ask, *things):
        """The refusal is of this very class, under SetError and ValueError, and under no other."""
        with self.subTest(ask=ask, things=things):
            with self.assertRaises(ValueError) as caught:
                ask(*things)
            error = caught.exception
            self.assertIs(type(error), refusal)
            self.assertIsInstance(error, errors.SetError)
            for other in REFUSALS:
                if other is not refusal:
                    self.assertNotIsInstance(error, other)
            return str(error)

    def assert_set(self, told):
        """What was told is a set, by the words of point 10."""
        self.assertIs(type(told), tuple)
        for number in told:
            self.assertIs(type(number), int)
        for low, high in zip(told, told[1:]):
            self.assertLess(low, high)

    def assert_told_set(self, told, numbers):
        """What was told is the set of just these numbers."""
        self.assert_set(told)
        self.assertEqual(told, tuple(sorted(set(numbers))))
