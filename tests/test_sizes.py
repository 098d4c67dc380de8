"""Points 71, 72 and 74: fewsumlots.sizes."""

import itertools
import math
import time
import unittest

from fewsumlots.errors import NoNumber, NoSum, TooMany
from fewsumlots.maps import freedom
from fewsumlots.plains import is_plain
from fewsumlots.sizes import ends_of_sums, set_with_sums, sums_within
from fewsumlots.sums import sums
from tests.helper import FAR, Case, sets_of_many_forms, scattered_sets, small_sets, things_that_are_no_numbers


def many_sums(some):
    return len({a + b for a in some for b in some})


def within_by_trying(many, bound):
    by_number = {}
    for some in itertools.combinations(range(bound + 1), many):
        by_number.setdefault(many_sums(some), []).append(some)
    return [(number, len(by_number[number]), min(by_number[number])) for number in sorted(by_number)]


class EndsOfSums(Case):
    def test_some_sizes(self):
        self.assertEqual(ends_of_sums(0), (0, 0))
        self.assertEqual(ends_of_sums(1), (1, 1))
        self.assertEqual(ends_of_sums(2), (3, 3))
        self.assertEqual(ends_of_sums(3), (5, 6))
        self.assertEqual(ends_of_sums(24), (47, 300))

    def test_all_sizes(self):
        for many in range(25):
            with self.subTest(many=many):
                told = ends_of_sums(many)
                self.assertEqual([type(told), type(told[0]), type(told[1])], [tuple, int, int])
                self.assertEqual(told, (2 * many - 1 if many else 0, many * (many + 1) // 2))

    def test_sets_lie_between_and_come_to_both_ends(self):
        for many in range(25):
            self.assertEqual(many_sums(tuple(range(many))), ends_of_sums(many)[0])
            self.assertEqual(many_sums(tuple(2 ** place for place in range(many))), ends_of_sums(many)[1])
        for some in small_sets(-3, 6, 6) + sets_of_many_forms() + scattered_sets():
            if len(some) <= 24:
                least, most = ends_of_sums(len(some))
                with self.subTest(some=some):
                    self.assertTrue(least <= len(sums(some, some)) <= most)

    def test_what_is_no_such_size(self):
        for thing in things_that_are_no_numbers() + [-1, 25, 26, -FAR, FAR, 24.0]:
            self.assert_refused(NoNumber, ends_of_sums, thing)


class SetWithSums(Case):
    def test_each_number_of_each_size(self):
        for many in range(25):
            least, most = ends_of_sums(many)
            for number in range(least, most + 1):
                with self.subTest(many=many, number=number):
                    told = set_with_sums(many, number)
                    self.assert_set(told)
                    self.assertEqual(len(told), many)
                    self.assertEqual(many_sums(told), number)
                    # What was told may be handed in.
                    self.assertEqual(len(sums(told, told)), number)

    def test_the_ends(self):
        self.assertEqual(set_with_sums(0, 0), ())
        self.assertEqual(len(set_with_sums(1, 1)), 1)
        self.assertEqual(len(set_with_sums(2, 3)), 2)
        self.assertIs(is_plain(set_with_sums(24, 300)), True)
        few = set_with_sums(24, 47)
        self.assertEqual(len({high - low for low, high in itertools.pairwise(few)}), 1)

    def test_what_is_no_such_number_of_sums(self):
        for many in (0, 1, 2, 3, 7, 23, 24):
            least, most = ends_of_sums(many)
            for thing in things_that_are_no_numbers() + [least - 1, most + 1, -1, FAR, -FAR, most + 100, float(least)]:
                self.assert_refused(NoSum, set_with_sums, many, thing)

    def test_true_is_no_number_of_sums(self):
        self.assert_refused(NoSum, set_with_sums, 1, True)
        self.assert_refused(NoSum, set_with_sums, 0, False)

    def test_no_size_goes_ahead(self):
        for thing in things_that_are_no_numbers() + [-1, 25, 26, -FAR, FAR]:
            for number in (0, 1, 3, 50, -1, None, True, "1", FAR):
                self.assert_refused(NoNumber, set_with_sums, thing, number)

    def test_what_is_told_is_told_again(self):
        for many, number in ((0, 0), (1, 1), (6, 14), (24, 200)):
            self.assert_own(set_with_sums, many, number)

    def test_the_greatest_in_short_time(self):
        start = time.process_time()
        for number in range(47, 301):
            set_with_sums(24, number)
        self.assertLess(time.process_time() - start, 5)


class SumsWithin(Case):
    def test_some_bounds(self):
        self.assertEqual(sums_within(0, 0), [(0, 1, ())])
        self.assertEqual(sums_within(0, 24), [(0, 1, ())])
        self.assertEqual(sums_within(1, 0), [(1, 1, (0,))])
        self.assertEqual(sums_within(1, 24), [(1, 25, (0,))])
        self.assertEqual(sums_within(2, 24), [(3, 300, (0, 1))])
        self.assertEqual(sums_within(3, 3), [(5, 2, (0, 1, 2)), (6, 2, (0, 1, 3))])
        self.assertEqual(sums_within(2, 0), [])
        self.assertEqual(sums_within(6, 4), [])
        self.assertEqual(sums_within(6, 0), [])
        self.assertEqual(sums_within(6, 5), [(11, 1, (0, 1, 2, 3, 4, 5))])

    def test_all_that_are_few_enough_and_no_others(self):
        for many, bound in itertools.product(range(7), range(25)):
            with self.subTest(many=many, bound=bound):
                if math.comb(bound + 1, many) > 3000:
                    self.assert_refused(TooMany, sums_within, many, bound)
                else:
                    told = sums_within(many, bound)
                    self.assertIs(type(told), list)
                    self.assertEqual([type(row) for row in told], [tuple] * len(told))
                    self.assertEqual(told, within_by_trying(many, bound))
                    self.assertEqual(sum(row[1] for row in told), math.comb(bound + 1, many))

    def test_about_three_thousand(self):
        # 2300 sets of three, 3003 of six of the numbers to 13, and 2380 of four to 16, 3060 to 17.
        self.assertEqual(sum(row[1] for row in sums_within(3, 24)), 2300)
        self.assertEqual(sum(row[1] for row in sums_within(4, 16)), 2380)
        self.assertEqual(sum(row[1] for row in sums_within(6, 12)), 1716)
        self.assert_refused(TooMany, sums_within, 6, 13)
        self.assert_refused(TooMany, sums_within, 4, 17)
        self.assert_refused(TooMany, sums_within, 6, 24)

    def test_what_is_told_is_the_askers_own(self):
        self.assert_own(sums_within, 3, 5)
        self.assert_own(sums_within, 0, 0)
        self.assert_own(sums_within, 4, 1)

    def test_what_is_no_such_number(self):
        for thing in things_that_are_no_numbers() + [-1, 7, 8, FAR, -FAR, 6.0]:
            for bound in (0, 5, 24, 25, None, True):
                self.assert_refused(NoNumber, sums_within, thing, bound)
        for thing in things_that_are_no_numbers() + [-1, 25, 26, FAR, -FAR, 24.0]:
            for many in (0, 1, 3, 6):
                self.assert_refused(NoNumber, sums_within, many, thing)

    def test_the_size_goes_ahead_of_the_bound(self):
        size = self.assert_refused(NoNumber, sums_within, 7, 0)
        bound = self.assert_refused(NoNumber, sums_within, 6, 25)
        self.assertNotEqual(size, bound)
        self.assertEqual(self.assert_refused(NoNumber, sums_within, 7, 25), size)

    def test_the_greatest_in_short_time(self):
        start = time.process_time()
        for many, bound in ((6, 12), (5, 13), (4, 16), (3, 24)):
            sums_within(many, bound)
        self.assertLess(time.process_time() - start, 5)


class SoOfSizes(Case):
    def test_plain_just_where_it_has_so_many_sums_and_so_much_freedom(self):
        for many in range(12):
            least, most = ends_of_sums(many)
            for number in range(least, most + 1):
                some = set_with_sums(many, number)
                with self.subTest(some=some):
                    self.assertEqual(is_plain(some), number == most)
                    self.assertEqual(freedom(some) == many, number == most)

    def test_rulers_within_a_bound(self):
        for many in range(1, 6):
            plain = many * (many + 1) // 2
            for bound in range(12):
                told = [row for row in sums_within(many, bound) if row[0] == plain]
                if bound < many * (many - 1) // 2:
                    self.assertEqual(told, [])
                for row in told:
                    self.assertIs(is_plain(row[2]), True)


if __name__ == "__main__":
    unittest.main()
