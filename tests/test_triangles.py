"""Points 80 and 81: fewsumlots.triangles."""

import itertools
import time
import unittest

from fewsumlots.errors import NoNumber, NoSet
from fewsumlots.sets import grown, moved
from fewsumlots.sums import differences, fourfold, sums
from fewsumlots.triangles import are_picks, led_pairs, picks
from tests.helper import (
    FAR, SIXTY, SIXTY_ONE, Case, bent, scattered_sets, sets_of_many_forms, small_sets, spoil, things_of_other_kinds,
    things_that_are_no_sets,
)

DOUBLED = tuple(2 ** place for place in range(60))


def choices(one, other):
    """For each difference, rising, all picks that there are for it."""
    by_difference = {}
    for b, c in itertools.product(one, other):
        by_difference.setdefault(b - c, []).append((b - c, b, c))
    return [by_difference[d] for d in sorted(by_difference)]


def really_picks(one, other, thing):
    """Point 80 by its words; shown as text, 1, True and 1.0 are unlike, and so are lists and tuples."""
    if type(thing) is not list:
        return False
    rows = choices(one, other)
    return len(thing) == len(rows) and all(
        repr(row) in [repr(good) for good in same] for row, same in zip(thing, rows))


def pairs_of_sets():
    small = small_sets(-2, 2, 3)
    great = sets_of_many_forms() + scattered_sets()
    return list(itertools.product(small, small)) + list(itertools.product(great[::2], great[1::5]))


def few_to_bend():
    return [
        ((), ()), ((), (1, 2)), ((5,), (7,)), ((0, 1), (0, 1)), ((0, 1, 3), (0, 1)), ((-1, 0, 1), (0, 2)),
        ((-FAR, 0, FAR), (-FAR, 1)), ((1, 2, 3), (1, 2, 3)),
    ]


class Picks(Case):
    def test_some_sets(self):
        self.assertEqual(picks((), ()), [])
        self.assertEqual(picks((), (1,)), [])
        self.assertEqual(picks((1,), ()), [])
        self.assertEqual(picks((5,), (-FAR,)), [(FAR + 5, 5, -FAR)])
        self.assertEqual(picks((0, 1), (0, 5)), [(-5, 0, 5), (-4, 1, 5), (0, 0, 0), (1, 1, 0)])

    def test_by_the_words(self):
        for one, other in pairs_of_sets():
            with self.subTest(one=one, other=other):
                told = picks(one, other)
                self.assertIs(type(told), list)
                self.assertEqual(tuple(row[0] for row in told), differences(one, other))
                for row in told:
                    self.assertEqual([type(row), *map(type, row)], [tuple, int, int, int])
                    d, b, c = row
                    self.assertTrue(b in one and c in other and b - c == d)
                self.assert_answer(True, are_picks, one, other, told)

    def test_what_is_told_is_the_askers_own(self):
        self.assert_own(picks, (0, 1, 2), (0, 1))
        self.assert_own(picks, (), (0, 1))


class ArePicks(Case):
    def test_all_others_that_are_picks_too(self):
        for one, other in few_to_bend() + [((0, 1, 2, 3), (0, 1)), ((0, 2, 4), (0, 2, 4))]:
            for thing in itertools.product(*choices(one, other)):
                self.assert_answer(True, are_picks, one, other, list(thing))
                self.assert_answer(False, are_picks, one, other, thing)

    def test_good_ones_bent_at_each_place(self):
        for one, other in few_to_bend():
            for thing in bent(picks(one, other)):
                self.assert_answer(really_picks(one, other, thing), are_picks, one, other, thing)

    def test_two_picks_for_one_difference(self):
        one = (0, 1)
        self.assert_answer(True, are_picks, one, one, [(-1, 0, 1), (0, 0, 0), (1, 1, 0)])
        self.assert_answer(True, are_picks, one, one, [(-1, 0, 1), (0, 1, 1), (1, 1, 0)])
        self.assert_answer(False, are_picks, one, one, [(-1, 0, 1), (0, 0, 0), (0, 1, 1), (1, 1, 0)])
        self.assert_answer(False, are_picks, one, one, [(0, 0, 0), (0, 1, 1), (1, 1, 0)])
        self.assert_answer(False, are_picks, one, one, [(-1, 0, 1), (1, 1, 0)])
        self.assert_answer(False, are_picks, one, one, [(1, 1, 0), (0, 0, 0), (-1, 0, 1)])
        self.assert_answer(False, are_picks, one, one, [])

    def test_numbers_of_neither_set(self):
        self.assert_answer(False, are_picks, (0,), (0,), [(0, 1, 1)])
        self.assert_answer(False, are_picks, (0, 1), (5,), [(-5, 5, 0), (-4, 1, 5)])
        self.assert_answer(False, are_picks, (5,), (5, 6), [(-1, 4, 5), (0, 5, 5)])
        self.assert_answer(False, are_picks, (5,), (6,), [(-1, 5, 5)])
        self.assert_answer(False, are_picks, (0, 1), (5,), [(-5, 1, 6), (-4, 1, 5)])
        self.assert_answer(True, are_picks, (0, 1), (5,), [(-5, 0, 5), (-4, 1, 5)])
        self.assert_answer(False, are_picks, (0, 1, 3), (0, 1), [(-1, 0, 1), (0, 0, 0), (1, 1, 0), (2, 2, 0), (3, 3, 0)])

    def test_truths_and_other_kinds_in_the_stead_of_numbers(self):
        for row in ((0, True, True), (False, 1, 1), (0, 1, True), (0, 1.0, 1), (0, "1", 1), [0, 1, 1], (0, 1), (0, 1, 1, 1)):
            self.assert_answer(False, are_picks, (1,), (1,), [row])
        self.assert_answer(True, are_picks, (1,), (1,), [(0, 1, 1)])

    def test_the_sets_exchanged(self):
        told = picks((0, 1, 5), (2, 9))
        self.assert_answer(True, are_picks, (0, 1, 5), (2, 9), told)
        self.assert_answer(False, are_picks, (2, 9), (0, 1, 5), told)

    def test_things_of_other_kinds(self):
        for one, other in (((), ()), ((), (3,)), ((5,), (5,)), ((0, 1), (0, 1)), (SIXTY, SIXTY)):
            good = picks(one, other)
            for kind in things_of_other_kinds():
                for thing in (kind, good[:-1] + [kind], [kind] + good[1:], good + [kind]):
                    self.assert_answer(really_picks(one, other, thing), are_picks, one, other, thing)


class LedPairs(Case):
    def test_some_sets(self):
        self.assertEqual(led_pairs((10,), (5,), (7,), [(-2, 5, 7)]), [(5, 3)])
        self.assertEqual(led_pairs((), (5,), (7,), [(-2, 5, 7)]), [])
        self.assertEqual(led_pairs((1, 2), (), (7,), []), [])
        self.assertEqual(
            led_pairs((0, 10), (0, 1), (0,), [(0, 0, 0), (1, 1, 0)]), [(0, 0), (-1, 0), (10, 10), (9, 10)])

    def test_of_any_picks(self):
        for one, other in (((0, 1), (0, 1)), ((0, 1, 2), (0, 1)), ((-FAR, 0, FAR), (-FAR, 0))):
            for first in ((), (3,), (-FAR, 0, 2), (0, 1, 2, 5)):
                for thing in itertools.product(*choices(one, other)):
                    with self.subTest(first=first, one=one, other=other, thing=thing):
                        told = led_pairs(first, one, other, list(thing))
                        self.assertIs(type(told), list)
                        self.assertEqual(told, [(x - b, x - c) for x in first for _, b, c in thing])
                        self.assertEqual([type(pair) for pair in told], [tuple] * len(told))

    def test_no_two_alike_and_what_follows(self):
        chosen = small_sets(-2, 2, 3)[::3] + [some for some in sets_of_many_forms() if len(some) < 12]
        for first, one, other in itertools.product(chosen[::2], chosen[::3], chosen[1::3]):
            with self.subTest(first=first, one=one, other=other):
                told = led_pairs(first, one, other, picks(one, other))
                self.assertEqual(len(set(told)), len(told))
                left, right = differences(first, one), differences(first, other)
                self.assertTrue(all(y in left and z in right for y, z in told))
                self.assertEqual(len(told), len(first) * len(differences(one, other)))
                self.assertLessEqual(len(told), len(left) * len(right))

    def test_of_no_picks(self):
        for first in ((), (0,), (0, 1, 5), SIXTY):
            for one, other in few_to_bend()[:5]:
                for thing in bent(picks(one, other)) + things_of_other_kinds():
                    if not really_picks(one, other, thing):
                        self.assert_refused(NoNumber, led_pairs, first, one, other, thing)

    def test_what_was_handed_in_stays_and_what_is_told_is_the_askers_own(self):
        some = picks((0, 1, 2), (0, 1))
        self.assert_own(led_pairs, (0, 5), (0, 1, 2), (0, 1), some)
        told = led_pairs((0, 5), (0, 1, 2), (0, 1), some)
        before = repr(told)
        spoil(some)
        self.assertEqual(repr(told), before)

    def test_no_set_goes_ahead_of_no_number(self):
        for thing in things_that_are_no_sets() + [SIXTY_ONE]:
            for some in ([], None, [(0, 0, 0)]):
                self.assert_refused(NoSet, led_pairs, thing, (0,), (0,), some)
                self.assert_refused(NoSet, led_pairs, (0,), thing, (0,), some)
                self.assert_refused(NoSet, led_pairs, (0,), (0,), thing, some)

    def test_the_first_set_goes_ahead(self):
        no_set = self.assert_refused(NoSet, led_pairs, None, (0,), (0,), [])
        too_many = self.assert_refused(NoSet, led_pairs, SIXTY_ONE, (0,), (0,), [])
        self.assertNotEqual(no_set, too_many)
        self.assertEqual(self.assert_refused(NoSet, led_pairs, None, SIXTY_ONE, SIXTY_ONE, []), no_set)
        self.assertEqual(self.assert_refused(NoSet, led_pairs, SIXTY_ONE, None, None, []), too_many)
        self.assertEqual(self.assert_refused(NoSet, led_pairs, (), SIXTY_ONE, None, []), too_many)
        self.assertEqual(self.assert_refused(NoSet, led_pairs, (), None, SIXTY_ONE, []), no_set)

    def test_sixty_in_short_time(self):
        start = time.process_time()
        far = moved(grown(DOUBLED, -FAR), FAR)
        for one, other in ((SIXTY, SIXTY), (DOUBLED, DOUBLED), (DOUBLED, far)):
            some = picks(one, other)
            self.assertIs(are_picks(one, other, some), True)
            self.assertEqual(len(led_pairs(SIXTY, one, other, some)), 60 * len(some))
        self.assertLess(time.process_time() - start, 10)


class SoOfFourfolds(Case):
    def test_the_pairs_times_themselves(self):
        for one, other in pairs_of_sets():
            pairs = len(one) * len(other)
            with self.subTest(one=one, other=other):
                self.assertLessEqual(pairs * pairs, fourfold(one, other) * len(sums(one, other)))


class HandedIn(Case):
    def test_no_set_goes_ahead_of_all_else(self):
        self.assert_needs_sets(picks)
        for thing in ([], None, [(0, 0, 0)]):
            self.assert_needs_sets(lambda one, other: are_picks(one, other, thing))
            self.assert_needs_sets(lambda one, other: led_pairs((0, 1), one, other, thing))


if __name__ == "__main__":
    unittest.main()
