"""Points 53 and 54: fewsumlots.forms."""

import itertools
import time
import unittest

from fewsumlots.errors import NoSet, TooMany
from fewsumlots.forms import likeness, sum_form
from fewsumlots.maps import freedom, keeps_sums, ties
from fewsumlots.sets import grown, moved
from fewsumlots.sums import sums
from tests.helper import (
    FAR, SIXTY, SIXTY_ONE, Case, scattered_sets, sets_of_many_forms, small_sets, things_that_are_no_sets,
)

SEVEN = tuple(range(7))


def numbered(order):
    """Point 53 by its words: the number of each two places' sum, as sums first come."""
    places = itertools.combinations_with_replacement(range(len(order)), 2)
    all_sums = [order[first] + order[second] for first, second in places]
    first_come = list(dict.fromkeys(all_sums))
    return [first_come.index(number) for number in all_sums]


def form_by_trying(some):
    return min(numbered(order) for order in itertools.permutations(some))


def keeps(led):
    """Whether a dict, looked at as a map, leads pairs with one sum to pairs with one sum."""
    pairs = list(itertools.combinations_with_replacement(led, 2))
    return all(
        led[a] + led[b] == led[c] + led[d] for a, b in pairs for c, d in pairs if a + b == c + d)


def leads(one, other, values):
    """Whether a list is a map as point 53 asks for it."""
    if type(values) is not list or sorted(values) != list(other) or len(values) != len(one):
        return False
    return keeps(dict(zip(one, values))) and keeps(dict(zip(values, one)))


def alike_by_trying(one, other):
    return len(one) == len(other) and any(leads(one, other, list(order)) for order in itertools.permutations(other))


def few_forms():
    return [some for some in sets_of_many_forms() + scattered_sets() if len(some) <= 6]


class SumForm(Case):
    def test_some_sets(self):
        self.assertEqual(sum_form(()), [])
        self.assertEqual(sum_form((5,)), [0])
        self.assertEqual(sum_form((0, 9)), [0, 1, 2])
        self.assertEqual(sum_form((-FAR, FAR)), [0, 1, 2])
        self.assertEqual(sum_form((0, 1, 3)), [0, 1, 2, 3, 4, 5])
        # An even row of three: by its ends first or its middle, least where 2 comes soonest.
        self.assertEqual(sum_form((0, 1, 2)), [0, 1, 2, 2, 3, 4])
        self.assertEqual(sum_form((-FAR, 0, FAR)), [0, 1, 2, 2, 3, 4])
        self.assertEqual(sum_form((0, 1, 10, 11)), [0, 1, 2, 3, 4, 3, 5, 6, 7, 8])

    def test_by_the_words(self):
        for some in small_sets(-2, 4, 5) + few_forms() + [(0, 1, 2, 3, 4, 5), (0, 1, 2, 3, 4, 9)]:
            with self.subTest(some=some):
                told = sum_form(some)
                self.assertIs(type(told), list)
                self.assertEqual(told, form_by_trying(some))
                self.assertEqual(len(told), len(some) * (len(some) + 1) // 2)
                self.assertEqual([type(number) for number in told], [int] * len(told))

    def test_the_lists_least_of_all_orders_not_the_rising_one(self):
        some = (0, 2, 3, 4)
        self.assertNotEqual(sum_form(some), numbered(some))
        self.assertLess(sum_form(some), numbered(some))

    def test_as_many_unlike_numbers_as_sums(self):
        for some in small_sets(0, 6, 5) + few_forms():
            with self.subTest(some=some):
                self.assertEqual(sorted(set(sum_form(some))), list(range(len(sums(some, some)))))

    def test_what_is_told_is_the_askers_own(self):
        for some in ((), (7,), (0, 1, 2), (0, 1, 2, 3, 4, 5)):
            self.assert_own(sum_form, some)


class Likeness(Case):
    def test_some_sets(self):
        self.assertEqual(likeness((), ()), [])
        self.assertEqual(likeness((5,), (-FAR,)), [-FAR])
        self.assertIn(likeness((0, 1), (-FAR, FAR)), ([-FAR, FAR], [FAR, -FAR]))
        self.assertIn(likeness((0, 1, 2), (5, 15, 25)), ([5, 15, 25], [25, 15, 5]))
        self.assertIsNone(likeness((0, 1, 2), (0, 1, 3)))
        self.assertIsNone(likeness((0, 1, 3), (0, 1, 2)))
        self.assertTrue(leads((0, 1, 3), (-7, 0, 100), likeness((0, 1, 3), (-7, 0, 100))))
        self.assertIsNone(likeness((), (0,)))
        self.assertIsNone(likeness((0,), ()))
        self.assertIsNone(likeness((0, 1), (0, 1, 2)))

    def test_both_ways_keep_sums(self):
        # The way from the plain set keeps sums, but no way back does.
        self.assertTrue(keeps({0: 0, 1: 1, 3: 2}))
        self.assertIsNone(likeness((0, 1, 3), (0, 1, 2)))
        # As many sums are not enough: one tie each, but of three numbers here and of four there.
        self.assertEqual(len(sums((0, 1, 2, 10), (0, 1, 2, 10))), len(sums((0, 1, 10, 11), (0, 1, 10, 11))))
        self.assertIsNone(likeness((0, 1, 2, 10), (0, 1, 10, 11)))

    def test_an_order_that_neither_rises_nor_falls(self):
        one, other = (0, 1, 2, 10), (0, 10, 11, 12)
        self.assertTrue(leads(one, other, likeness(one, other)))
        one, other = (0, 1, 2, 100), (0, 4, 5, 10)
        told = likeness(one, other)
        self.assertTrue(leads(one, other, told))
        self.assertEqual(told[3], 4)

    def test_by_the_words(self):
        chosen = small_sets(0, 5, 4) + [some for some in few_forms() if len(some) <= 4]
        for one, other in itertools.product(chosen, chosen[::3]):
            with self.subTest(one=one, other=other):
                told = likeness(one, other)
                if told is None:
                    self.assertFalse(alike_by_trying(one, other))
                else:
                    self.assertTrue(leads(one, other, told))

    def test_alike_just_where_the_sum_form_is_one(self):
        chosen = [some for some in small_sets(0, 7, 6) if not some or some[0] == 0][::2] + few_forms()
        form_of = {some: form_by_trying(some) for some in chosen}
        for one, other in itertools.product(chosen, chosen[::4]):
            with self.subTest(one=one, other=other):
                told = likeness(one, other)
                self.assertEqual(told is not None, form_of[one] == form_of[other])
                self.assertEqual(told is not None, sum_form(one) == sum_form(other))
                if told is not None:
                    self.assertTrue(leads(one, other, told))
                    self.assert_answer(True, keeps_sums, one, told)

    def test_moved_grown_and_turned_over(self):
        for some in small_sets(0, 5, 4) + few_forms():
            for other in (moved(some, FAR), moved(some, -7), grown(some, 3), grown(some, -FAR), grown(moved(some, 5), -1)):
                with self.subTest(some=some, other=other):
                    self.assertTrue(leads(some, other, likeness(some, other)))
                    self.assertTrue(leads(other, some, likeness(other, some)))
                    self.assertEqual(sum_form(some), sum_form(other))

    def test_plain_sets_of_one_size_are_alike(self):
        for one, other in itertools.product(((0, 1, 4, 9, 15, 22), (1, 2, 4, 8, 16, 32), (-FAR, -1, 0, 2, 6, FAR + 9)), repeat=2):
            self.assertTrue(leads(one, other, likeness(one, other)))

    def test_what_is_told_is_the_askers_own(self):
        self.assert_own(likeness, (), ())
        self.assert_own(likeness, (0, 1, 2), (5, 7, 9))
        self.assert_own(likeness, (0, 1, 2), (0, 1, 3))

    def test_six_numbers_in_short_time(self):
        start = time.process_time()
        hard = [(0, 1, 2, 3, 4, 5), (1, 2, 4, 8, 16, 32), (0, 1, 2, 3, 4, 6), (0, 2, 3, 4, 5, 6), (-FAR, 0, 1, 2, 3, FAR)]
        for one, other in itertools.product(hard, repeat=2):
            likeness(one, other)
            sum_form(one)
        self.assertLess(time.process_time() - start, 10)


class SoOfSetsAlike(Case):
    def test_as_many_sums_ties_and_as_much_freedom(self):
        by_form = {}
        for some in small_sets(0, 7, 5) + few_forms():
            by_form.setdefault(tuple(sum_form(some)), []).append(some)
        for same in by_form.values():
            with self.subTest(same=same[:3]):
                self.assertEqual(len({len(sums(some, some)) for some in same}), 1)
                self.assertEqual(len({len(ties(some)) for some in same}), 1)
                self.assertEqual(len({freedom(some) for some in same}), 1)

    def test_the_least_number_of_sums_by_the_freedom(self):
        chosen = small_sets(-3, 5, 6) + [some for some in sets_of_many_forms() + scattered_sets() if len(some) <= 24]
        for some in chosen:
            if some:
                f = freedom(some)
                with self.subTest(some=some):
                    self.assertGreaterEqual(len(sums(some, some)), f * len(some) - f * (f - 1) // 2)

    def test_a_plain_set_is_the_freest(self):
        for some in small_sets(-3, 5, 5) + few_forms():
            with self.subTest(some=some):
                self.assertEqual(freedom(some) == len(some), not ties(some))
                self.assertLessEqual(freedom(some), len(some))


class HandedIn(Case):
    def test_no_set_goes_ahead_of_all_else(self):
        self.assert_needs_set(sum_form)
        self.assert_needs_sets(likeness)

    def test_no_set_for_both_goes_ahead_of_too_many(self):
        for thing in things_that_are_no_sets() + [SIXTY_ONE]:
            for some in (SEVEN, SIXTY):
                self.assert_refused(NoSet, likeness, some, thing)
                self.assert_refused(NoSet, likeness, thing, some)

    def test_more_than_six_numbers(self):
        for some in (SEVEN, tuple(2 ** place for place in range(7)), moved(SEVEN, -FAR), SIXTY):
            self.assert_refused(TooMany, sum_form, some)
            for other in ((), (0,), (0, 1, 2, 3, 4, 5), SEVEN, SIXTY):
                self.assert_refused(TooMany, likeness, some, other)
                self.assert_refused(TooMany, likeness, other, some)
        self.assertEqual(len(sum_form(SEVEN[:6])), 21)


if __name__ == "__main__":
    unittest.main()
