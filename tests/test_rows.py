"""Points 30, 31 and 34: fewsumlots.rows."""

import math
import time
import unittest

from fewsumlots.errors import NoNumber, NoRow
from fewsumlots.rows import near, row_around, row_set, shows_far
from fewsumlots.sets import grown, moved
from fewsumlots.sums import differences, sums
from tests.helper import (
    FAR, SIXTY, Case, bent, scattered_sets, sets_of_many_forms, small_sets, things_of_other_kinds,
    things_that_are_no_numbers, things_that_are_no_tuples,
)

NO_NUMBERS_FROM_ONE = things_that_are_no_numbers() + [0, -1, -FAR, 2.0]


def sets_with_numbers():
    return [some for some in sets_of_many_forms() + scattered_sets() + small_sets(-3, 5, 5) if some]


def really_far(some, most, thing):
    """Point 31 by its words."""
    if type(thing) is not list or [type(weight) for weight in thing] != [int] * (len(some) - 1):
        return False
    held = sum(weight * (number - some[0]) for weight, number in zip(thing, some[1:]))
    return held > 0 and (most - 1) * held < max(some) - min(some)


class RowSet(Case):
    def test_some_rows(self):
        self.assertEqual(row_set((0, 2, 5)), (0, 2, 4, 6, 8))
        self.assertEqual(row_set((7, 1, 1)), (7,))
        self.assertEqual(row_set((7, FAR, 1)), (7,))
        self.assertEqual(row_set((-3, 3, 3)), (-3, 0, 3))
        self.assertEqual(row_set((-FAR, FAR, 3)), (-FAR, 0, FAR))
        self.assertEqual(row_set((0, 1, 60)), SIXTY)

    def test_first_and_step_and_so_on(self):
        for first in (-FAR, -2, 0, 1, FAR):
            for step in (1, 2, 7, FAR):
                for many in (1, 2, 3, 59, 60):
                    with self.subTest(first=first, step=step, many=many):
                        told = row_set((first, step, many))
                        self.assert_set(told)
                        self.assertEqual(told, tuple(first + step * place for place in range(many)))

    def test_what_is_no_row(self):
        for thing in things_that_are_no_tuples() + bent((4, 2, 3)) + things_of_other_kinds():
            good = type(thing) is tuple and [type(part) for part in thing] == [int] * 3
            if not good or thing[1] < 1 or not 1 <= thing[2] <= 60:
                self.assert_refused(NoRow, row_set, thing)
        for thing in ((), (1,), (1, 2), (1, 2, 3, 4), [0, 2, 5], "0:2:5", (0, 0, 1), (0, -1, 2), (0, 1, 0), (0, 1, -1)):
            self.assert_refused(NoRow, row_set, thing)
        for place in range(3):
            for wrong in things_that_are_no_numbers():
                thing = [1, 2, 3]
                thing[place] = wrong
                self.assert_refused(NoRow, row_set, tuple(thing))

    def test_more_than_sixty(self):
        for many in (61, 62, 1000, FAR):
            self.assert_refused(NoRow, row_set, (0, 1, many))
            self.assert_refused(NoRow, row_set, (-FAR, FAR, many))


class RowAround(Case):
    def test_some_sets(self):
        self.assertEqual(row_around((0, 2, 4)), (0, 2, 3))
        self.assertEqual(row_around((0, 4, 10)), (0, 2, 6))
        self.assertEqual(row_around((-1, 5)), (-1, 6, 2))
        self.assertEqual(row_around((0, 6, 10, 15)), (0, 1, 16))
        self.assertEqual(row_around((-FAR, FAR)), (-FAR, 2 * FAR, 2))
        self.assertEqual(row_around((-FAR, 0, 1)), (-FAR, 1, FAR + 2))
        self.assertEqual(row_around(SIXTY), (0, 1, 60))

    def test_of_one_number_the_step_is_one(self):
        for number in (-FAR, -1, 0, 5, FAR):
            with self.subTest(number=number):
                self.assertEqual(row_around((number,)), (number, 1, 1))

    def test_it_is_a_row_with_both_ends_that_holds_the_set(self):
        for some in sets_with_numbers():
            with self.subTest(some=some):
                told = row_around(some)
                self.assertIs(type(told), tuple)
                first, step, many = told
                for number in told:
                    self.assertIs(type(number), int)
                self.assertGreaterEqual(step, 1)
                self.assertEqual(first, some[0])
                self.assertEqual(first + step * (many - 1), some[-1])
                for number in some:
                    self.assertEqual((number - first) % step, 0)

    def test_as_few_numbers_as_can_be(self):
        for some in small_sets(-3, 9, 5):
            if len(some) > 1:
                steps = [step for step in range(1, 13) if all((number - some[0]) % step == 0 for number in some)]
                with self.subTest(some=some):
                    self.assertEqual(row_around(some)[2], min((some[-1] - some[0]) // step + 1 for step in steps))
        for some in scattered_sets():
            if len(some) > 1:
                self.assertEqual(row_around(some)[1], math.gcd(*[number - some[0] for number in some]))

    def test_back_from_the_set_of_a_row(self):
        for row in ((0, 2, 5), (-7, 3, 60), (FAR, FAR, 2), (-FAR, 10 ** 27, 60), (5, 1, 1)):
            with self.subTest(row=row):
                self.assertEqual(row_around(row_set(row)), row)

    def test_moved_and_grown(self):
        for some in sets_with_numbers():
            if len(some) > 1:
                first, step, many = row_around(some)
                with self.subTest(some=some):
                    self.assertEqual(row_around(moved(some, -FAR)), (first - FAR, step, many))
                    self.assertEqual(row_around(grown(some, 6)), (6 * first, 6 * step, many))
                    self.assertEqual(row_around(grown(some, -1)), (-some[-1], step, many))

    def test_the_set_without_numbers(self):
        self.assert_refused(NoNumber, row_around, ())

    def test_what_is_no_set(self):
        self.assert_needs_set(row_around)


class Near(Case):
    def test_some_sets(self):
        self.assertEqual(near((5,), 1), ("row", (5, 1, 1)))
        self.assertEqual(near((5,), FAR), ("row", (5, 1, 1)))
        self.assertEqual(near((0, 4, 10), 6), ("row", (0, 2, 6)))
        self.assertEqual(near((0, 4, 10), 7), ("row", (0, 2, 6)))
        self.assertEqual(near((0, 4, 10), 5)[0], "weights")
        self.assertEqual(near((0, FAR), 2), ("row", (0, FAR, 2)))
        self.assertEqual(near((0, FAR), 1)[0], "weights")

    def test_the_row_where_it_is_short_enough_else_weights(self):
        for some in sets_with_numbers():
            row = row_around(some)
            for most in (1, 2, 3, 7, row[2] - 1, row[2], row[2] + 1, FAR):
                if most < 1:
                    continue
                with self.subTest(some=some, most=most):
                    told = near(some, most)
                    self.assertIs(type(told), tuple)
                    if row[2] <= most:
                        self.assertEqual(told, ("row", row))
                        continue
                    self.assertEqual(len(told), 2)
                    self.assertEqual(told[0], "weights")
                    self.assertTrue(really_far(some, most, told[1]))
                    self.assert_answer(True, shows_far, some, most, told[1])

    def test_divisors_that_fall_with_each_number(self):
        # Each number is the product of all primes but one, so the divisor falls with each of them.
        primes = [2] + [prime for prime in range(3, 72, 2) if all(prime % low for low in range(3, prime, 2))]
        whole = math.prod(primes)
        some = (0,) + tuple(sorted(whole // prime for prime in primes))
        self.assertEqual(row_around(some), (0, 1, whole // 2 + 1))
        self.assertEqual(near(some, whole // 2 + 1)[0], "row")
        for most in (1, 60, whole // 2):
            weights = near(some, most)[1]
            self.assertTrue(really_far(some, most, weights))
            # Weights that were only multiplied on would have hundreds of figures.
            self.assertLess(max(abs(weight) for weight in weights), 100 * whole)

    def test_what_is_told_is_the_askers_own(self):
        self.assert_own(near, (0, 4, 10), 5)
        self.assert_own(near, (0, 6, 10, 15), 3)
        self.assert_own(near, (0, 4, 10), 6)

    def test_sixty_far_numbers_in_short_time(self):
        start = time.process_time()
        some = tuple(10 ** 29 - 10 ** 27 // (place + 1) ** 2 for place in range(60))
        self.assertEqual(len(some), len(set(some)))
        for most in (1, 60, 10 ** 20):
            kind, told = near(some, most)
            self.assertEqual(kind, "weights")
            self.assertIs(shows_far(some, most, told), True)
        self.assertLess(time.process_time() - start, 5)


class ShowsFar(Case):
    def test_some_weights(self):
        self.assert_answer(True, shows_far, (0, 4, 10), 5, [-2, 1])
        self.assert_answer(False, shows_far, (0, 4, 10), 6, [-2, 1])
        self.assert_answer(False, shows_far, (0, 4, 10), 5, [2, -1])
        self.assert_answer(False, shows_far, (0, 4, 10), 5, [0, 0])
        self.assert_answer(True, shows_far, (0, 4, 10), 3, [1, 0])
        self.assert_answer(False, shows_far, (0, 4, 10), 4, [1, 0])
        self.assert_answer(True, shows_far, (3, 7, 13), 1, [FAR, FAR])
        self.assert_answer(False, shows_far, (3, 7, 13), 2, [FAR, FAR])
        self.assert_answer(True, shows_far, (-FAR, 0, 1), FAR + 1, [-1, 1])
        self.assert_answer(False, shows_far, (-FAR, 0, 1), FAR + 2, [-1, 1])

    def test_the_bounds_themselves(self):
        # The gap is 12: two times 6 is no less than it.
        self.assert_answer(False, shows_far, (0, 6, 12), 3, [1, 0])
        self.assert_answer(True, shows_far, (0, 6, 12), 2, [1, 0])
        self.assert_answer(False, shows_far, (0, 6, 12), 2, [0, 1])
        self.assert_answer(True, shows_far, (0, 6, 12), 1, [0, 1])
        self.assert_answer(False, shows_far, (0, 6, 12), 1, [2, -1])

    def test_of_one_number_nothing_shows_it(self):
        for most in (1, 2, FAR):
            for thing in things_of_other_kinds() + [[], [0], [1]]:
                self.assert_answer(False, shows_far, (5,), most, thing)

    def test_all_small_weights(self):
        for some in ((0, 1), (0, 4, 10), (-3, 3, 5)):
            for weights in small_weights(len(some) - 1):
                for most in (1, 2, 4, 5, 6, 8, 9):
                    self.assert_answer(really_far(some, most, weights), shows_far, some, most, weights)

    def test_good_ones_bent_at_each_place(self):
        for some, most in (((0, 7), 1), ((0, 4, 10), 5), ((0, 6, 10, 15), 9), ((-FAR, 0, 1, FAR), 100)):
            good = near(some, most)[1]
            self.assert_answer(True, shows_far, some, most, good)
            for thing in bent(good):
                self.assert_answer(really_far(some, most, thing), shows_far, some, most, thing)
            for place in range(len(good)):
                for wrong in (True, False, float(good[place]), str(good[place]), None, [good[place]]):
                    self.assert_answer(False, shows_far, some, most, good[:place] + [wrong] + good[place + 1:])
            self.assert_answer(False, shows_far, some, most, tuple(good))

    def test_things_of_other_kinds(self):
        for thing in things_of_other_kinds():
            for some in ((5,), (0, 4, 10), SIXTY):
                self.assert_answer(really_far(some, 2, thing), shows_far, some, 2, thing)


def small_weights(many):
    if not many:
        return [[]]
    return [[weight] + others for weight in range(-4, 5) for others in small_weights(many - 1)]


class HandedIn(Case):
    def test_no_set_goes_ahead_of_all_else(self):
        for most in (1, 0, True, None, "x"):
            self.assert_needs_set(lambda some, most=most: near(some, most))
            self.assert_needs_set(lambda some, most=most: shows_far(some, most, [1]))
            self.assert_needs_set(lambda some, most=most: shows_far(some, most, None))

    def test_the_set_without_numbers(self):
        for most in [1, FAR] + NO_NUMBERS_FROM_ONE:
            self.assert_refused(NoNumber, near, (), most)
            self.assert_refused(NoNumber, shows_far, (), most, [])
            self.assert_refused(NoNumber, shows_far, (), most, None)

    def test_what_is_no_number_from_one_on(self):
        for thing in NO_NUMBERS_FROM_ONE:
            for some in ((5,), (0, 4, 10), SIXTY):
                self.assert_refused(NoNumber, near, some, thing)
                self.assert_refused(NoNumber, shows_far, some, thing, [1, 0])
                self.assert_refused(NoNumber, shows_far, some, thing, None)

    def test_sixty_are_let_by(self):
        self.assertEqual(near(SIXTY, 60), ("row", (0, 1, 60)))
        self.assertIs(shows_far(SIXTY, 59, near(SIXTY, 59)[1]), True)


class FewSumsAndTheRowAround(Case):
    def assert_point_34(self, some):
        many = len(some)
        how_many = len(sums(some, some))
        self.assertLessEqual(how_many, many * (many + 1) // 2)
        self.assertLessEqual(len(differences(some, some)), many * (many - 1) + 1)
        if many and how_many <= 3 * many - 4:
            self.assertLessEqual(row_around(some)[2], how_many - many + 1)
            return 1
        return 0

    def test_all_small_sets(self):
        held = sum(self.assert_point_34(some) for some in small_sets(0, 11, 12))
        self.assertGreater(held, 100)

    def test_many_numbers_with_a_gap(self):
        for gap in range(1, 59):
            for step in (1, 5, FAR):
                some = tuple(number * step - FAR for number in SIXTY if number != gap)
                self.assertEqual(self.assert_point_34(some), 1)

    def test_scattered_sets(self):
        for some in scattered_sets() + sets_of_many_forms():
            self.assert_point_34(some)


if __name__ == "__main__":
    unittest.main()
