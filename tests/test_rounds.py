"""Points 60 and 64: fewsumlots.rounds."""

import itertools
import math
import time
import unittest

from fewsumlots.errors import NoNumber, NoRound, NoSet
from fewsumlots.rounds import round_sums, round_turned, round_ways
from tests.helper import (
    FAR, SIXTY_ONE, Case, scattered_sets_of_round, sets_of_round, things_that_are_no_numbers, things_that_are_no_sets,
)

SIZES = (1, 2, 3, 8, 12, 24, 36, 39, 40)


def rounds_and_sets():
    """Sizes with two sets each: all of small rounds, some of greater ones."""
    small = [(m, one, other) for m in range(1, 5) for one in sets_of_round(m) for other in sets_of_round(m)]
    great = [
        (m, one, other)
        for m in SIZES for one in scattered_sets_of_round(m) for other in scattered_sets_of_round(m)[::3]
    ]
    return small + great


class RoundSums(Case):
    def test_some_sets(self):
        self.assertEqual(round_sums(1, (0,), (0,)), (0,))
        self.assertEqual(round_sums(2, (1,), (1,)), (0,))
        self.assertEqual(round_sums(5, (1, 4), (1, 2)), (0, 1, 2, 3))
        self.assertEqual(round_sums(12, (0, 4, 8), (0, 4, 8)), (0, 4, 8))
        self.assertEqual(round_sums(40, (39,), (39,)), (38,))
        self.assertEqual(round_sums(39, (0, 38), (1, 38)), (0, 1, 37, 38))
        self.assertEqual(round_sums(7, (), (1, 2)), ())
        self.assertEqual(round_sums(7, (1, 2), ()), ())
        self.assertEqual(round_sums(7, (), ()), ())

    def test_by_the_words(self):
        for m, one, other in rounds_and_sets():
            led = [a + b - m if a + b >= m else a + b for a in one for b in other]
            with self.subTest(m=m, one=one, other=other):
                self.assert_told_set(round_sums(m, one, other), led)

    def test_a_row_of_a_step_that_divides_the_size_is_its_own_sums(self):
        for m in (12, 36, 40):
            for step in [step for step in range(1, m + 1) if m % step == 0]:
                row = tuple(range(0, m, step))
                self.assertEqual(round_sums(m, row, row), row)


class RoundWays(Case):
    def test_some_sets(self):
        self.assertEqual(round_ways(1, (0,), (0,)), [1])
        self.assertEqual(round_ways(1, (), (0,)), [0])
        self.assertEqual(round_ways(2, (0, 1), (0, 1)), [2, 2])
        self.assertEqual(round_ways(4, (0, 1, 3), (1, 3)), [2, 1, 2, 1])
        self.assertEqual(round_ways(3, (), ()), [0, 0, 0])
        self.assertEqual(round_ways(40, tuple(range(40)), tuple(range(40))), [40] * 40)

    def test_by_the_words(self):
        for m, one, other in rounds_and_sets():
            led = [a + b - m if a + b >= m else a + b for a in one for b in other]
            with self.subTest(m=m, one=one, other=other):
                told = round_ways(m, one, other)
                self.assertIs(type(told), list)
                self.assertEqual([type(many) for many in told], [int] * m)
                self.assertEqual(told, [led.count(number) for number in range(m)])
                self.assertEqual(sum(told), len(one) * len(other))
                come = tuple(number for number in range(m) if told[number])
                self.assertEqual(come, round_sums(m, one, other))

    def test_what_is_told_is_the_askers_own(self):
        self.assert_own(round_ways, 5, (0, 1), (0, 4))
        self.assert_own(round_ways, 1, (), ())


class RoundTurned(Case):
    def test_some_sets(self):
        self.assertEqual(round_turned(1, (0,), 17), (0,))
        self.assertEqual(round_turned(1, (), 17), ())
        self.assertEqual(round_turned(2, (1,), -1), (0,))
        self.assertEqual(round_turned(10, (0, 1, 5), 0), (0, 1, 5))
        self.assertEqual(round_turned(10, (0, 1, 5), 6), (1, 6, 7))
        self.assertEqual(round_turned(10, (0, 1, 5), -1), (0, 4, 9))
        self.assertEqual(round_turned(40, (0, 39), 1), (0, 1))
        self.assertEqual(round_turned(10, (0, 1, 5), 10 ** 29), (0, 1, 5))
        self.assertEqual(round_turned(10, (0, 1, 5), -10 ** 29 - 3), (2, 7, 8))

    def test_by_the_words(self):
        turns = (0, 1, -1, 2, 7, 39, 40, 41, -40, -79, 1000, -1001, FAR, -FAR, 10 ** 30 - 1, 1 - 10 ** 30)
        for m in SIZES:
            for some in scattered_sets_of_round(m):
                for by in turns:
                    with self.subTest(m=m, some=some, by=by):
                        told = round_turned(m, some, by)
                        self.assert_set(told)
                        self.assertEqual(len(told), len(some))
                        self.assertTrue(all(0 <= number < m for number in told))
                        # Each has gone by a number of whole rounds from where it was turned to.
                        back = {(number - by) % m for number in told}
                        self.assertEqual(back, set(some))

    def test_turned_there_and_back_and_around(self):
        for m in SIZES:
            for some in scattered_sets_of_round(m):
                with self.subTest(m=m, some=some):
                    self.assertEqual(round_turned(m, round_turned(m, some, 7), -7), some)
                    self.assertEqual(round_turned(m, some, m * FAR), some)


class SoOfRounds(Case):
    def test_more_numbers_together_than_the_round(self):
        for m in range(1, 7):
            for one, other in itertools.product(sets_of_round(m), repeat=2):
                if len(one) + len(other) > m:
                    with self.subTest(m=m, one=one, other=other):
                        self.assertEqual(round_sums(m, one, other), tuple(range(m)))
        for m, one, other in rounds_and_sets():
            if len(one) + len(other) > m:
                with self.subTest(m=m, one=one, other=other):
                    self.assertEqual(round_sums(m, one, other), tuple(range(m)))

    def test_turned_or_both_multiplied_as_many_sums(self):
        for m in (1, 2, 9, 12, 39, 40):
            chosen = scattered_sets_of_round(m)
            units = [by for by in range(1, m + 1) if math.gcd(by, m) == 1]
            for one, other in itertools.product(chosen[::2], chosen[1::3]):
                many = len(round_sums(m, one, other))
                with self.subTest(m=m, one=one, other=other):
                    for by in (1, -3, 20, FAR):
                        self.assertEqual(len(round_sums(m, round_turned(m, one, by), other)), many)
                        self.assertEqual(len(round_sums(m, one, round_turned(m, other, by))), many)
                    for by in units[:4] + units[-1:]:
                        both = [tuple(sorted(number * by % m for number in some)) for some in (one, other)]
                        self.assertEqual(len(round_sums(m, *both)), many)


class HandedIn(Case):
    def test_no_round_goes_ahead_of_all_else(self):
        for things in (((), ()), ((0,), (0,)), (None, None), ((1, 0), "x"), (SIXTY_ONE, [1])):
            for ask in (round_sums, round_ways, round_turned):
                self.assert_needs_round(lambda m: ask(m, *things))

    def test_no_set_of_the_round_on_either_place(self):
        for ask in (round_sums, round_ways):
            for other in ((), (0,), None, (-1,)):
                self.assert_needs_set_of_round(lambda m, thing: ask(m, thing, other))
            for one in ((), (0,)):
                self.assert_needs_set_of_round(lambda m, thing: ask(m, one, thing))
        for by in (0, 1, None, True, "1"):
            self.assert_needs_set_of_round(lambda m, thing: round_turned(m, thing, by))

    def test_the_first_set_goes_ahead_of_the_second(self):
        for ask in (round_sums, round_ways):
            no_set = self.assert_refused(NoSet, ask, 5, None, (0,))
            outside = self.assert_refused(NoSet, ask, 5, (5,), (0,))
            self.assertNotEqual(no_set, outside)
            self.assertEqual(self.assert_refused(NoSet, ask, 5, None, (5,)), no_set)
            self.assertEqual(self.assert_refused(NoSet, ask, 5, (5,), None), outside)

    def test_a_set_of_a_greater_round(self):
        self.assertEqual(round_sums(40, (39,), (0,)), (39,))
        self.assert_refused(NoSet, round_sums, 39, (39,), (0,))
        self.assert_refused(NoSet, round_ways, 39, (0,), (39,))
        self.assert_refused(NoSet, round_turned, 1, (1,), 1)
        self.assert_refused(NoRound, round_turned, 41, (40,), 1)

    def test_turned_by_what_is_no_number(self):
        for thing in things_that_are_no_numbers():
            for m, some in ((1, ()), (1, (0,)), (40, (0, 39))):
                self.assert_refused(NoNumber, round_turned, m, some, thing)
        for thing in things_that_are_no_sets():
            self.assert_refused(NoSet, round_turned, 40, thing, None)

    def test_the_greatest_round_in_short_time(self):
        start = time.process_time()
        whole = tuple(range(40))
        for _ in range(50):
            self.assertEqual(round_sums(40, whole, whole), whole)
            self.assertEqual(sum(round_ways(40, whole, whole)), 1600)
            self.assertEqual(round_turned(40, whole, FAR), whole)
        self.assertLess(time.process_time() - start, 5)


if __name__ == "__main__":
    unittest.main()
