"""Points 61, 62, 63 and 64: fewsumlots.keepers."""

import itertools
import time
import unittest

from fewsumlots.errors import NoNumber, NoRound, NoSet
from fewsumlots.keepers import fewest_sums, filled, keeper, kept_sums
from fewsumlots.rounds import round_sums, round_turned
from tests.helper import (
    FAR, SIXTY_ONE, Case, scattered_sets_of_round, sets_of_round, things_that_are_no_numbers, things_that_are_no_sets,
)

SIZES = (1, 2, 3, 8, 12, 24, 36, 39, 40)


def divide(m):
    return [step for step in range(1, m + 1) if m % step == 0]


def rounds_and_sets():
    small = [(m, some) for m in range(1, 8) for some in sets_of_round(m)]
    return small + [(m, some) for m in SIZES for some in scattered_sets_of_round(m)]


def turned(m, some, by):
    return {(number + by) % m for number in some}


def keeper_by_trying(m, some):
    return next(by for by in range(1, m + 1) if turned(m, some, by) == set(some))


def filled_by_words(m, some, step):
    told = set()
    for times in range(m):
        told |= turned(m, some, step * times)
    return tuple(sorted(told))


def times_needed(many, h):
    """How many times h is needed for so many, counted up."""
    times = 0
    while times * h < many:
        times += 1
    return times


def fewest_by_the_formula(m, many, other):
    return min(h * (times_needed(many, h) + times_needed(other, h) - 1) for h in divide(m))


def fewest_by_trying(m):
    """For each two numbers the fewest sums of all sets of a round; turned sets have as many, so 0 is in each."""
    least = {}
    with_nought = [some for some in sets_of_round(m) if some and some[0] == 0]
    for one, other in itertools.combinations_with_replacement(with_nought, 2):
        many = len({(a + b) % m for a in one for b in other})
        for key in ((len(one), len(other)), (len(other), len(one))):
            least[key] = min(many, least.get(key, m))
    return least


class Keeper(Case):
    def test_some_sets(self):
        self.assertEqual(keeper(1, (0,)), 1)
        self.assertEqual(keeper(1, ()), 1)
        self.assertEqual(keeper(40, ()), 1)
        self.assertEqual(keeper(40, tuple(range(40))), 1)
        self.assertEqual(keeper(40, (7,)), 40)
        self.assertEqual(keeper(12, (0, 4, 8)), 4)
        self.assertEqual(keeper(12, (0, 1, 4, 5, 8, 9)), 4)
        self.assertEqual(keeper(12, (0, 1, 4, 5, 8, 10)), 12)
        self.assertEqual(keeper(12, (2, 8)), 6)
        self.assertEqual(keeper(39, (0, 13, 26)), 13)
        self.assertEqual(keeper(2, (1,)), 2)

    def test_by_the_words(self):
        for m, some in rounds_and_sets():
            with self.subTest(m=m, some=some):
                told = keeper(m, some)
                self.assertIs(type(told), int)
                self.assertEqual(told, keeper_by_trying(m, some))
                self.assertEqual(m % told, 0)
                self.assertEqual(round_turned(m, some, told), some)


class Filled(Case):
    def test_some_sets(self):
        self.assertEqual(filled(1, (0,), 1), (0,))
        self.assertEqual(filled(12, (), 3), ())
        self.assertEqual(filled(12, (1, 5), 6), (1, 5, 7, 11))
        self.assertEqual(filled(12, (1, 5), 12), (1, 5))
        self.assertEqual(filled(12, (11,), 4), (3, 7, 11))
        self.assertEqual(filled(40, (3,), 1), tuple(range(40)))
        self.assertEqual(filled(40, (0, 39), 20), (0, 19, 20, 39))

    def test_by_the_words(self):
        for m, some in rounds_and_sets():
            for step in divide(m):
                with self.subTest(m=m, some=some, step=step):
                    told = filled(m, some, step)
                    self.assert_set(told)
                    self.assertEqual(told, filled_by_words(m, some, step))
                    self.assertEqual(round_turned(m, told, step), told)

    def test_by_its_keeper_a_set_stays(self):
        for m, some in rounds_and_sets():
            self.assertEqual(filled(m, some, keeper(m, some)), some)


class KeptSums(Case):
    def test_some_sets(self):
        self.assertEqual(kept_sums(1, (0,), (0,)), (1, 1, 1, 1))
        self.assertEqual(kept_sums(12, (0, 4, 8), (0, 4)), (3, 4, 3, 3))
        self.assertEqual(kept_sums(12, (0, 1), (0, 1)), (3, 12, 2, 2))
        self.assertEqual(kept_sums(40, tuple(range(40)), (7,)), (40, 1, 40, 40))
        self.assertEqual(kept_sums(39, (0, 13, 26), (1, 14)), (3, 13, 3, 3))

    def test_sets_without_numbers(self):
        # No sums are kept by each turn, so what has numbers is filled to the whole round.
        self.assertEqual(kept_sums(12, (), ()), (0, 1, 0, 0))
        self.assertEqual(kept_sums(12, (), (1, 2)), (0, 1, 0, 12))
        self.assertEqual(kept_sums(12, (5,), ()), (0, 1, 12, 0))

    def test_by_the_words(self):
        pairs = [(m, one, other) for m in range(1, 6) for one in sets_of_round(m) for other in sets_of_round(m)]
        for m in SIZES:
            chosen = scattered_sets_of_round(m)
            pairs += [(m, one, other) for one in chosen for other in chosen[::3]]
        for m, one, other in pairs:
            all_sums = {(a + b) % m for a in one for b in other}
            step = keeper_by_trying(m, all_sums)
            both = [len(filled_by_words(m, some, step)) for some in (one, other)]
            with self.subTest(m=m, one=one, other=other):
                told = kept_sums(m, one, other)
                self.assertIs(type(told), tuple)
                self.assertEqual(told, (len(all_sums), step, *both))
                if one and other:
                    self.assertGreaterEqual(told[0], told[2] + told[3] - m // told[1])

    def test_at_least_both_filled_together_less_the_size_by_the_step(self):
        for m in (6, 8):
            with_nought = [some for some in sets_of_round(m) if some and some[0] == 0]
            for one, other in itertools.combinations_with_replacement(with_nought, 2):
                many, step, first, second = kept_sums(m, one, other)
                with self.subTest(m=m, one=one, other=other):
                    self.assertGreaterEqual(many, first + second - m // step)


class FewestSums(Case):
    def assert_two_such_sets(self, m, many, other):
        told = fewest_sums(m, many, other)
        self.assertEqual([type(told), len(told), type(told[0])], [tuple, 3, int])
        for some, size in zip(told[1:], (many, other)):
            self.assert_set(some)
            self.assertEqual(len(some), size)
            self.assertTrue(0 <= some[0] and some[-1] < m)
        self.assertEqual(told[0], len({(a + b) % m for a in told[1] for b in told[2]}))
        return told[0]

    def test_some_sizes(self):
        self.assertEqual(fewest_sums(1, 1, 1), (1, (0,), (0,)))
        self.assertEqual(fewest_sums(40, 40, 40), (40, tuple(range(40)), tuple(range(40))))
        self.assertEqual(fewest_sums(40, 1, 1)[0], 1)
        self.assertEqual(fewest_sums(2, 1, 2)[0], 2)
        self.assertEqual(fewest_sums(39, 3, 4)[0], 6)
        self.assertEqual(fewest_sums(39, 3, 3)[0], 3)
        self.assertEqual(fewest_sums(37, 10, 12)[0], 21)
        self.assertEqual(fewest_sums(37, 20, 20)[0], 37)
        self.assertEqual(fewest_sums(40, 5, 8)[0], 8)
        self.assertEqual(fewest_sums(40, 5, 9)[0], 10)

    def test_no_two_sets_of_a_small_round_have_fewer(self):
        for m in range(1, 10):
            least = fewest_by_trying(m)
            for many, other in itertools.product(range(1, m + 1), repeat=2):
                with self.subTest(m=m, many=many, other=other):
                    self.assertEqual(self.assert_two_such_sets(m, many, other), least[many, other])

    def test_all_numbers_of_greater_rounds(self):
        for m in (10, 12, 16, 24, 30, 36, 37, 39, 40):
            for many, other in itertools.product(range(1, m + 1), repeat=2):
                with self.subTest(m=m, many=many, other=other):
                    told = self.assert_two_such_sets(m, many, other)
                    self.assertEqual(told, fewest_by_the_formula(m, many, other))

    def test_no_sets_at_hand_have_fewer(self):
        for m in SIZES:
            for one, other in itertools.product(scattered_sets_of_round(m), repeat=2):
                if one and other:
                    least = fewest_sums(m, len(one), len(other))[0]
                    with self.subTest(m=m, one=one, other=other):
                        self.assertGreaterEqual(len(round_sums(m, one, other)), least)

    def test_more_numbers_together_than_the_round(self):
        for m in range(1, 41):
            for many in range(1, m + 1):
                self.assertEqual(fewest_sums(m, many, m + 1 - many)[0], m)

    def test_what_is_told_is_told_again(self):
        for things in ((12, 3, 5), (40, 17, 13), (1, 1, 1)):
            self.assert_own(fewest_sums, *things)

    def test_what_is_no_such_number(self):
        for m in (1, 2, 12, 40):
            for thing in things_that_are_no_numbers() + [0, -1, m + 1, FAR, -FAR, 41]:
                for good in (1, m):
                    self.assert_refused(NoNumber, fewest_sums, m, thing, good)
                    self.assert_refused(NoNumber, fewest_sums, m, good, thing)
                self.assert_refused(NoNumber, fewest_sums, m, thing, thing)


class HandedIn(Case):
    def test_no_round_goes_ahead_of_all_else(self):
        for things in (((0,),), (None,), ((5, 1),), (SIXTY_ONE,)):
            self.assert_needs_round(lambda m: keeper(m, *things))
        for things in (((), 1), ((0,), 0), (None, None), ((-1,), True)):
            self.assert_needs_round(lambda m: filled(m, *things))
        for things in (((), ()), ((0,), (0,)), (None, None), ((0,), (99,))):
            self.assert_needs_round(lambda m: kept_sums(m, *things))
        for things in ((1, 1), (0, 0), (None, None), (True, 41)):
            self.assert_needs_round(lambda m: fewest_sums(m, *things))

    def test_no_set_of_the_round(self):
        self.assert_needs_set_of_round(keeper)
        for step in (1, 0, None, True, 7, FAR):
            self.assert_needs_set_of_round(lambda m, thing: filled(m, thing, step))
        for other in ((), (0,), None, (-1,)):
            self.assert_needs_set_of_round(lambda m, thing: kept_sums(m, thing, other))
        for one in ((), (0,)):
            self.assert_needs_set_of_round(lambda m, thing: kept_sums(m, one, thing))

    def test_the_first_set_goes_ahead_of_the_second(self):
        no_set = self.assert_refused(NoSet, kept_sums, 5, None, (0,))
        outside = self.assert_refused(NoSet, kept_sums, 5, (5,), (0,))
        self.assertNotEqual(no_set, outside)
        self.assertEqual(self.assert_refused(NoSet, kept_sums, 5, None, (5,)), no_set)
        self.assertEqual(self.assert_refused(NoSet, kept_sums, 5, (5,), None), outside)

    def test_filled_by_what_does_not_divide_the_size(self):
        for m in (1, 2, 12, 39, 40):
            outside = [step for step in range(-m, 2 * m + 1) if step not in divide(m)]
            for thing in things_that_are_no_numbers() + outside + [FAR, -FAR]:
                for some in ((), (0,), tuple(range(m))):
                    self.assert_refused(NoNumber, filled, m, some, thing)
        for thing in things_that_are_no_sets():
            self.assert_refused(NoSet, filled, 12, thing, 5)
            self.assert_refused(NoRound, filled, 41, thing, 5)

    def test_the_greatest_round_in_short_time(self):
        start = time.process_time()
        whole = tuple(range(40))
        for many in range(1, 41):
            fewest_sums(40, many, 20)
            kept_sums(40, whole, whole[:many])
            filled(40, whole[:many], 8)
        self.assertLess(time.process_time() - start, 5)


if __name__ == "__main__":
    unittest.main()
