"""Points 10, 11 and 12: fewsumlots.sets."""

import collections
import math
import unittest

from fewsumlots.errors import NoSet
from fewsumlots.sets import form, grown, is_set, moved, set_of
from tests.helper import (
    FAR, SIXTY, SIXTY_ONE, Case, scattered_sets, small_sets, things_that_are_no_numbers,
    things_that_are_no_sets,
)

SOME_NUMBERS = (-FAR, -1000, -3, -2, -1, 0, 1, 2, 3, 7, 1000, FAR)


class IsSet(Case):
    def test_sets_of_few_and_of_many_numbers(self):
        for some in small_sets(-2, 3, 6) + scattered_sets():
            with self.subTest(some=some):
                self.assertIs(is_set(some), True)

    def test_numbers_of_either_sign_and_far_ones(self):
        for some in ((0,), (-5,), (-5, -4), (-1, 0, 1), (-FAR, FAR), (FAR, FAR + 1), (-FAR - 1, -FAR, 0)):
            with self.subTest(some=some):
                self.assertIs(is_set(some), True)

    def test_more_than_sixty_numbers_are_a_set_still(self):
        for many in (59, 60, 61, 62, 500, 5000):
            with self.subTest(many=many):
                self.assertIs(is_set(tuple(range(-7, many - 7))), True)

    def test_what_is_no_set(self):
        for thing in things_that_are_no_sets():
            with self.subTest(thing=thing):
                self.assertIs(is_set(thing), False)

    def test_one_fault_at_any_place_of_a_long_tuple(self):
        for at in range(70):
            for wrong in (at - 1, at + 1, True, False, str(at), float(at), None, [at], (at,)):
                # At the two ends a number further out is no fault.
                if (at, wrong) in ((0, -1), (69, 70)):
                    continue
                thing = list(range(70))
                thing[at] = wrong
                with self.subTest(at=at, wrong=wrong):
                    self.assertIs(is_set(tuple(thing)), False)

    def test_a_tuple_with_names_is_a_tuple(self):
        point = collections.namedtuple("point", "low high")
        self.assertIs(is_set(point(1, 2)), True)
        self.assertIs(is_set(point(2, 1)), False)


class SetOf(Case):
    def test_any_order_and_numbers_twice(self):
        self.assertEqual(set_of([]), ())
        self.assertEqual(set_of([3]), (3,))
        self.assertEqual(set_of([3, 1, 2]), (1, 2, 3))
        self.assertEqual(set_of([5, 5, 5]), (5,))
        self.assertEqual(set_of([2, -1, 2, 0, -1, FAR, -FAR]), (-FAR, -1, 0, 2, FAR))
        self.assertEqual(set_of([10, 9, 2, 1]), (1, 2, 9, 10))

    def test_lists_of_sets(self):
        for some in scattered_sets():
            with self.subTest(some=some):
                self.assert_told_set(set_of(list(some)), some)
                self.assert_told_set(set_of(list(reversed(some)) + list(some)), some)

    def test_the_list_stays_as_it_was_and_the_answer_too(self):
        things = [3, 1, 2, 1]
        told = set_of(things)
        self.assertEqual(things, [3, 1, 2, 1])
        self.assertEqual(set_of(things), told)
        things.append(0)
        things[0] = 9
        self.assertEqual(told, (1, 2, 3))
        self.assertEqual(set_of(things), (0, 1, 2, 9))

    def test_what_is_refused_stays_as_it_was(self):
        for things in ([3, 1, True], [2, "1"], list(range(100, 30, -1))):
            before = list(things)
            self.assert_refused(NoSet, set_of, things)
            self.assertEqual(things, before)

    def test_what_is_no_list(self):
        for thing in things_that_are_no_numbers() + things_that_are_no_sets() + [(1, 2), (), 5]:
            if not isinstance(thing, list):
                self.assert_refused(NoSet, set_of, thing)

    def test_a_list_with_what_is_no_whole_number(self):
        for thing in things_that_are_no_numbers():
            self.assert_refused(NoSet, set_of, [thing])
            self.assert_refused(NoSet, set_of, [thing, 1])
            self.assert_refused(NoSet, set_of, [1, 0, thing])
            self.assert_refused(NoSet, set_of, [1, thing, 0])

    def test_at_most_sixty_unlike_numbers(self):
        self.assertEqual(set_of(list(SIXTY)), SIXTY)
        self.assertEqual(set_of(list(SIXTY) * 3), SIXTY)
        self.assertEqual(set_of([4] * 1000), (4,))
        self.assert_refused(NoSet, set_of, list(SIXTY_ONE))
        self.assert_refused(NoSet, set_of, list(SIXTY_ONE) * 2)
        self.assert_refused(NoSet, set_of, list(range(500)))


class Moved(Case):
    def test_some_sets(self):
        self.assertEqual(moved((), 5), ())
        self.assertEqual(moved((), 0), ())
        self.assertEqual(moved((4,), -4), (0,))
        self.assertEqual(moved((-1, 0, 3), 2), (1, 2, 5))
        self.assertEqual(moved((-1, 0, 3), 0), (-1, 0, 3))
        self.assertEqual(moved((-1, 0, 3), -2), (-3, -2, 1))
        self.assertEqual(moved((1, 2), FAR), (FAR + 1, FAR + 2))

    def test_each_number_is_so_much_more(self):
        for some in scattered_sets():
            for by in SOME_NUMBERS:
                with self.subTest(some=some, by=by):
                    told = moved(some, by)
                    self.assert_told_set(told, [number + by for number in some])
                    self.assertEqual(moved(told, -by), some)


class Grown(Case):
    def test_some_sets(self):
        self.assertEqual(grown((), 5), ())
        self.assertEqual(grown((), -5), ())
        self.assertEqual(grown((-1, 0, 3), 2), (-2, 0, 6))
        self.assertEqual(grown((-1, 0, 3), 1), (-1, 0, 3))
        self.assertEqual(grown((1, 2), FAR), (FAR, 2 * FAR))

    def test_below_nought_it_rises_too(self):
        self.assertEqual(grown((-1, 0, 3), -2), (-6, 0, 2))
        self.assertEqual(grown((1, 2), -1), (-2, -1))
        self.assertEqual(grown((-2, 1), -FAR), (-FAR, 2 * FAR))

    def test_by_nought(self):
        self.assertEqual(grown((), 0), ())
        self.assertEqual(grown((0,), 0), (0,))
        self.assertEqual(grown((7,), 0), (0,))
        self.assertEqual(grown((-1, 0, 3), 0), (0,))
        self.assertEqual(grown(SIXTY, 0), (0,))

    def test_each_number_is_so_many_times(self):
        for some in scattered_sets():
            for by in SOME_NUMBERS:
                with self.subTest(some=some, by=by):
                    self.assert_told_set(grown(some, by), [number * by for number in some])


def plain_form(some):
    """The form by the words of point 12, for sets of two numbers and more."""
    gaps = [number - min(some) for number in some]
    divisor = math.gcd(*gaps)
    upright = sorted(gap // divisor for gap in gaps)
    turned = sorted(max(upright) - number for number in upright)
    return min(tuple(upright), tuple(turned))


class Form(Case):
    def test_none_and_one(self):
        self.assertEqual(form(()), ())
        for number in SOME_NUMBERS:
            with self.subTest(number=number):
                self.assertEqual(form((number,)), (0,))

    def test_others(self):
        self.assertEqual(form((5, 9)), (0, 1))
        self.assertEqual(form((0, 1, 3)), (0, 1, 3))
        self.assertEqual(form((0, 2, 3)), (0, 1, 3))
        self.assertEqual(form((-7, -1, 2)), (0, 1, 3))
        self.assertEqual(form((0, 6, 10, 15)), (0, 5, 9, 15))
        self.assertEqual(form((3, 6, 9, 12)), (0, 1, 2, 3))
        self.assertEqual(form((0, 4, 6)), (0, 1, 3))
        self.assertEqual(form((-FAR, FAR)), (0, 1))
        self.assertEqual(form((0, FAR, 3 * FAR)), (0, 1, 3))
        self.assertEqual(form((0, FAR - 1, FAR)), (0, 1, FAR))

    def test_by_the_words(self):
        for some in small_sets(-4, 5, 5) + scattered_sets():
            if len(some) > 1:
                with self.subTest(some=some):
                    told = form(some)
                    self.assert_set(told)
                    self.assertEqual(told, plain_form(some))

    def test_the_same_when_moved_grown_and_turned_over(self):
        for some in small_sets(0, 6, 4) + scattered_sets():
            told = form(some)
            self.assertEqual(form(told), told)
            for by in SOME_NUMBERS:
                with self.subTest(some=some, by=by):
                    self.assertEqual(form(moved(some, by)), told)
                    if by != 0:
                        self.assertEqual(form(grown(some, by)), told)
                    turned = tuple(by - number for number in reversed(some))
                    self.assertEqual(form(turned), told)

    def test_grown_by_nought_it_is_another(self):
        self.assertEqual(form(grown((1, 2, 4), 0)), (0,))


class HandedIn(Case):
    ASKS = (
        lambda some: moved(some, 1),
        lambda some: moved(some, None),
        lambda some: grown(some, 2),
        lambda some: grown(some, 0),
        lambda some: grown(some, "x"),
        form,
    )

    def test_no_set_is_refused_ahead_of_all_else(self):
        for ask in self.ASKS:
            self.assert_needs_set(ask)

    def test_sixty_are_let_by_and_sixty_one_are_not(self):
        self.assertEqual(moved(SIXTY, 1), tuple(range(1, 61)))
        self.assertEqual(grown(SIXTY, 2), tuple(range(0, 120, 2)))
        self.assertEqual(form(SIXTY), SIXTY)
        for ask in self.ASKS:
            self.assert_refused(NoSet, ask, SIXTY_ONE)


if __name__ == "__main__":
    unittest.main()
