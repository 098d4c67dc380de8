"""Points 20, 21, 22 and 23: fewsumlots.sums."""

import itertools
import time
import unittest

from fewsumlots.errors import NoNumber, NoSet, NoSum
from fewsumlots.sets import grown, moved
from fewsumlots.sums import differences, few_sums, fold_sums, fourfold, pairs, runs, sums, ways
from tests.helper import (
    FAR, SIXTY, Case, scattered_sets, small_sets, things_that_are_no_numbers,
)

# Gaps that double, so that no two pairs have one sum: the hardest sets to go through.
DOUBLED = tuple(2 ** place for place in range(60))
DOUBLED_FAR = tuple(2 ** place + FAR for place in range(60))


def some_pairs_of_sets():
    small = small_sets(-2, 2, 3)
    return list(itertools.product(small, small)) + list(itertools.pairwise(scattered_sets()))


class Sums(Case):
    def test_some_sets(self):
        self.assertEqual(sums((0, 1, 3), (0, 10)), (0, 1, 3, 10, 11, 13))
        self.assertEqual(sums((0, 1, 2), (0, 1)), (0, 1, 2, 3))
        self.assertEqual(sums((-5, 4), (1, 10)), (-4, 5, 14))
        self.assertEqual(sums((-FAR,), (FAR,)), (0,))
        self.assertEqual(differences((0, 1, 3), (0, 1)), (-1, 0, 1, 2, 3))
        self.assertEqual(differences((0, 1), (0, 1, 3)), (-3, -2, -1, 0, 1))
        self.assertEqual(differences((FAR,), (-FAR, FAR)), (0, 2 * FAR))

    def test_sets_without_numbers(self):
        for some in ((), (0,), (1, 5), SIXTY):
            for ask in (sums, differences):
                with self.subTest(ask=ask, some=some):
                    self.assertEqual(ask((), some), ())
                    self.assertEqual(ask(some, ()), ())

    def test_all_of_them_each_once(self):
        for one, other in some_pairs_of_sets():
            with self.subTest(one=one, other=other):
                self.assert_told_set(sums(one, other), [a + b for a in one for b in other])
                self.assert_told_set(differences(one, other), [a - b for a in one for b in other])

    def test_as_many_as_can_be(self):
        self.assertEqual(len(sums(DOUBLED, DOUBLED)), 60 * 61 // 2)
        self.assertEqual(len(differences(DOUBLED_FAR, DOUBLED_FAR)), 60 * 59 + 1)
        self.assertEqual(len(sums(SIXTY, grown(SIXTY, 60))), 3600)


class FewSums(Case):
    def test_some_sets(self):
        self.assertEqual(few_sums(()), ())
        self.assertEqual(few_sums((5,)), ())
        self.assertEqual(few_sums((5, 7)), (12,))
        self.assertEqual(few_sums((0, 1, 2)), (1, 2, 3))
        self.assertEqual(few_sums((-1, 0, 1, 5)), (-1, 0, 1, 4, 5, 6))
        self.assertEqual(few_sums((-FAR, 0, FAR)), (-FAR, 0, FAR))

    def test_two_unlike_numbers(self):
        for some in small_sets(-4, 5, 5) + scattered_sets():
            with self.subTest(some=some):
                self.assert_told_set(few_sums(some), [a + b for a in some for b in some if a != b])


class FoldSums(Case):
    def test_by_the_words(self):
        for some in small_sets(-2, 3, 4) + [(-FAR, 1, FAR), (0, 5, 7, 100, 101)]:
            for k in range(7):
                with self.subTest(some=some, k=k):
                    chosen = itertools.combinations_with_replacement(some, k)
                    self.assert_told_set(fold_sums(some, k), [sum(numbers) for numbers in chosen])

    def test_nought_folds(self):
        for some in ((), (0,), (5,), (-3, 8), SIXTY):
            with self.subTest(some=some):
                self.assertEqual(fold_sums(some, 0), (0,))

    def test_the_set_without_numbers(self):
        for k in range(1, 7):
            with self.subTest(k=k):
                self.assertEqual(fold_sums((), k), ())

    def test_one_fold_and_two_folds(self):
        for some in scattered_sets():
            with self.subTest(some=some):
                self.assertEqual(fold_sums(some, 1), some)
                self.assertEqual(fold_sums(some, 2), sums(some, some))

    def test_twelve_numbers_with_as_many_sums_as_can_be(self):
        some = tuple(7 ** place for place in range(12))
        self.assertEqual([len(fold_sums(some, k)) for k in range(7)], [1, 12, 78, 364, 1365, 4368, 12376])

    def test_what_is_no_such_number(self):
        for thing in things_that_are_no_numbers() + [-1, 7, 8, -FAR, FAR, 6.0, 0.0]:
            for some in ((), (3,), (0, 1, 5)):
                self.assert_refused(NoNumber, fold_sums, some, thing)


class Ways(Case):
    def test_some_sets(self):
        self.assertEqual(ways((0, 1), (0, 1)), {0: 1, 1: 2, 2: 1})
        self.assertEqual(ways((0, 1, 3), (0, 2)), {0: 1, 1: 1, 2: 1, 3: 2, 5: 1})
        self.assertEqual(ways((-FAR, 0), (0, FAR)), {-FAR: 1, 0: 2, FAR: 1})
        self.assertEqual(ways((), (1, 2)), {})
        self.assertEqual(ways((1, 2), ()), {})
        self.assertEqual(ways((), ()), {})

    def test_by_the_words(self):
        for one, other in some_pairs_of_sets():
            with self.subTest(one=one, other=other):
                all_sums = [a + b for a in one for b in other]
                told = ways(one, other)
                self.assertIs(type(told), dict)
                for number in told:
                    self.assertIs(type(number), int)
                    self.assertIs(type(told[number]), int)
                self.assertEqual(sorted(told), sorted(set(all_sums)))
                if len(all_sums) < 500:
                    self.assertEqual(told, {number: all_sums.count(number) for number in all_sums})
                self.assertEqual(sum(told.values()), len(one) * len(other))

    def test_what_is_told_is_the_askers_own(self):
        told = ways((0, 1), (0, 1))
        told[1] = 99
        told["x"] = []
        del told[0]
        self.assertEqual(ways((0, 1), (0, 1)), {0: 1, 1: 2, 2: 1})
        self.assertEqual(fourfold((0, 1), (0, 1)), 6)
        self.assertEqual(pairs((0, 1), (0, 1), 0), [(0, 0)])


class Pairs(Case):
    def test_some_sets(self):
        self.assertEqual(pairs((0, 1, 2), (0, 1, 2), 2), [(0, 2), (1, 1), (2, 0)])
        self.assertEqual(pairs((0, 1, 2), (0, 1, 2), 0), [(0, 0)])
        self.assertEqual(pairs((0, 1, 2), (10, 11), 12), [(1, 11), (2, 10)])
        self.assertEqual(pairs((-FAR, FAR), (-FAR, FAR), 0), [(-FAR, FAR), (FAR, -FAR)])

    def test_by_the_words(self):
        for one, other in some_pairs_of_sets():
            counts = ways(one, other)
            for number in list(counts)[:40]:
                with self.subTest(one=one, other=other, number=number):
                    told = pairs(one, other, number)
                    self.assertIs(type(told), list)
                    self.assertEqual(told, sorted((a, b) for a in one for b in other if a + b == number))
                    self.assertEqual(len(told), counts[number])
                    for pair in told:
                        self.assertIs(type(pair), tuple)

    def test_what_is_no_sum(self):
        for thing in things_that_are_no_numbers() + [-1, 5, 7, FAR, -FAR, 0.0, 2.0, "0"]:
            self.assert_refused(NoSum, pairs, (0, 1, 3), (0, 1, 3), thing)
        for number in (-1, 0, 1, 2, True, None):
            self.assert_refused(NoSum, pairs, (), (), number)
            self.assert_refused(NoSum, pairs, (), (0, 1), number)
            self.assert_refused(NoSum, pairs, (0, 1), (), number)

    def test_numbers_of_the_sets_and_their_differences_are_no_sums(self):
        self.assert_refused(NoSum, pairs, (5, 9), (2, 3), 5)
        self.assert_refused(NoSum, pairs, (5, 9), (2, 3), 2)
        self.assert_refused(NoSum, pairs, (5, 9), (2, 3), 9 - 3)
        self.assert_refused(NoSum, pairs, (5, 9), (2, 3), 10)

    def test_what_is_told_is_the_askers_own(self):
        told = pairs((0, 1), (0, 1), 1)
        told.append((9, 9))
        told[0] = None
        self.assertEqual(pairs((0, 1), (0, 1), 1), [(0, 1), (1, 0)])


class Fourfold(Case):
    def test_some_sets(self):
        self.assertEqual(fourfold((5,), (7,)), 1)
        self.assertEqual(fourfold((0, 1), (0, 1)), 6)
        self.assertEqual(fourfold((0, 1), (0, 10)), 4)
        self.assertEqual(fourfold((0, 1, 2), (0, 1, 2)), 19)
        self.assertEqual(fourfold((0, FAR), (-FAR, 0)), 6)

    def test_sets_without_numbers(self):
        self.assertEqual(fourfold((), ()), 0)
        self.assertEqual(fourfold((), (1, 2)), 0)
        self.assertEqual(fourfold((1, 2), ()), 0)

    def test_by_the_words(self):
        small = small_sets(-2, 2, 3) + [(0, 1, 2, 3, 7), (-FAR, 0, 1, FAR)]
        for one, other in itertools.product(small, small):
            with self.subTest(one=one, other=other):
                tuples = itertools.product(one, other, one, other)
                self.assertEqual(fourfold(one, other), sum(1 for a, b, c, d in tuples if a + b == c + d))

    def test_by_sums_by_differences_and_the_other_way_about(self):
        for one, other in some_pairs_of_sets():
            with self.subTest(one=one, other=other):
                told = fourfold(one, other)
                self.assertIs(type(told), int)
                self.assertEqual(told, sum(many * many for many in ways(one, other).values()))
                # The ways of a set and itself turned over count its differences.
                of_one = ways(one, grown(one, -1))
                of_other = ways(other, grown(other, -1))
                self.assertEqual(told, sum(of_one[gap] * of_other.get(gap, 0) for gap in of_one))
                self.assertEqual(told, fourfold(other, one))
                self.assertEqual(told, fourfold(moved(one, 5), moved(other, -FAR)))

    def test_sixty_numbers_in_short_time(self):
        start = time.process_time()
        self.assertEqual(fourfold(SIXTY, SIXTY), (2 * 60 ** 3 + 60) // 3)
        self.assertEqual(fourfold(DOUBLED, DOUBLED_FAR), 2 * 60 * 60 - 60)
        self.assertLess(time.process_time() - start, 5)


def is_parted(some, step, rows):
    """The rows of this step hold each number of the set just once, and no other."""
    numbers = [first + step * place for first, many in rows for place in range(many)]
    return sorted(numbers) == list(some)


def fewest_rows(some, step):
    """As few rows as can be, by going through all ways to cut the set into rows."""
    if not some:
        return 0
    first = some[0]
    best = len(some)
    many = 1
    while first + step * (many - 1) in some:
        row = [first + step * place for place in range(many)]
        rest = tuple(number for number in some if number not in row)
        best = min(best, 1 + fewest_rows(rest, step))
        many += 1
    return best


class Runs(Case):
    def test_some_sets(self):
        self.assertEqual(runs((1, 2, 3, 7, 8, 12), 1), [(1, 3), (7, 2), (12, 1)])
        self.assertEqual(runs((0, 1, 2, 3, 4, 7), 2), [(0, 3), (1, 2), (7, 1)])
        self.assertEqual(runs((0, 1, 2, 3, 4, 7), 3), [(0, 2), (1, 3), (2, 1)])
        self.assertEqual(runs((-4, -2, 0, 2), 2), [(-4, 4)])
        self.assertEqual(runs((-4, -2, 0, 2), 1), [(-4, 1), (-2, 1), (0, 1), (2, 1)])
        self.assertEqual(runs((-FAR, 0, FAR), FAR), [(-FAR, 3)])
        self.assertEqual(runs((-FAR, 0, 1, FAR), FAR), [(-FAR, 3), (1, 1)])
        self.assertEqual(runs((0, 1, 2), FAR), [(0, 1), (1, 1), (2, 1)])
        self.assertEqual(runs(SIXTY, 1), [(0, 60)])
        self.assertEqual(runs(SIXTY, 59), [(0, 2)] + [(first, 1) for first in range(1, 59)])

    def test_the_set_without_numbers_and_one_number(self):
        for step in (1, 2, FAR):
            with self.subTest(step=step):
                self.assertEqual(runs((), step), [])
                self.assertEqual(runs((-9,), step), [(-9, 1)])

    def test_parted_into_as_few_as_can_be(self):
        for some in small_sets(-3, 5, 7):
            for step in range(1, 6):
                with self.subTest(some=some, step=step):
                    told = runs(some, step)
                    self.assertTrue(is_parted(some, step, told))
                    self.assertEqual(len(told), fewest_rows(some, step))

    def test_a_rising_list_of_tuples(self):
        for some in scattered_sets():
            for step in (1, 2, 3, 25, 10 ** 28):
                with self.subTest(some=some, step=step):
                    told = runs(some, step)
                    self.assertIs(type(told), list)
                    self.assertEqual(told, sorted(told))
                    self.assertTrue(is_parted(some, step, told))
                    # A number begins a row just where the one a step before it is missing.
                    self.assertEqual(len(told), len([x for x in some if x - step not in some]))
                    for row in told:
                        self.assertIs(type(row), tuple)

    def test_what_is_no_such_number(self):
        for thing in things_that_are_no_numbers() + [0, -1, -FAR, 2.0]:
            for some in ((), (3,), (0, 1, 5)):
                self.assert_refused(NoNumber, runs, some, thing)

    def test_what_is_told_is_the_askers_own(self):
        told = runs((0, 1, 5), 1)
        told.clear()
        told.append("x")
        self.assertEqual(runs((0, 1, 5), 1), [(0, 2), (5, 1)])


ASKS_OF_TWO = (
    sums,
    differences,
    ways,
    fourfold,
    lambda one, other: pairs(one, other, 0),
    lambda one, other: pairs(one, other, True),
    lambda one, other: pairs(one, other, None),
)

ASKS_OF_ONE = (
    few_sums,
    lambda some: fold_sums(some, 0),
    lambda some: fold_sums(some, 2),
    lambda some: fold_sums(some, 7),
    lambda some: fold_sums(some, True),
    lambda some: runs(some, 1),
    lambda some: runs(some, 0),
    lambda some: runs(some, None),
)


class HandedIn(Case):
    def test_no_set_is_refused_ahead_of_all_else(self):
        for ask in ASKS_OF_ONE:
            self.assert_needs_set(ask)

    def test_of_two_the_first_one_goes_ahead(self):
        for ask in ASKS_OF_TWO:
            self.assert_needs_sets(ask)

    def test_sixty_are_let_by(self):
        self.assertEqual(sums(SIXTY, SIXTY), tuple(range(119)))
        self.assertEqual(differences(SIXTY, SIXTY), tuple(range(-59, 60)))
        self.assertEqual(few_sums(SIXTY), tuple(range(1, 118)))
        self.assertEqual(fold_sums(SIXTY, 2), tuple(range(119)))
        self.assertEqual(ways(SIXTY, SIXTY)[59], 60)
        self.assertEqual(len(pairs(SIXTY, SIXTY, 59)), 60)
        self.assertEqual(runs(SIXTY, 1), [(0, 60)])

    def test_sums_of_more_than_sixty_are_told_but_not_taken(self):
        told = sums(SIXTY, SIXTY)
        self.assert_refused(NoSet, sums, told, (0,))
        self.assert_refused(NoSet, few_sums, told)

    def test_asked_again_it_is_answered_alike(self):
        for ask in (sums, differences, ways, fourfold):
            first = ask((0, 1, 5), (-2, 3))
            ask((1, 2), (3,))
            self.assertEqual(ask((0, 1, 5), (-2, 3)), first)


if __name__ == "__main__":
    unittest.main()
