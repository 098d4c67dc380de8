"""Points 40, 41 and 42: fewsumlots.covers."""

import itertools
import time
import unittest

from fewsumlots.covers import (
    cover, cover_by_differences, cover_by_differences_holds, is_cover, is_spread, spread,
)
from fewsumlots.errors import NoNumber, TooMany
from fewsumlots.sets import grown, moved
from fewsumlots.sums import sums
from tests.helper import (
    FAR, SIXTY, Case, bent, scattered_sets, sets_of_many_forms, small_sets, things_of_other_kinds,
)

ELEVEN = tuple(range(11))


def really_set(thing):
    return type(thing) is tuple and all(type(x) is int for x in thing) and list(thing) == sorted(set(thing))


def really_cover(one, other, thing):
    """Point 40 by its words."""
    return really_set(thing) and set(one) <= {b + turn for b in other for turn in thing}


def really_spread(one, other, thing):
    """Point 41 by its words: no two in one turn."""
    if not really_set(thing) or not set(thing) <= set(one):
        return False
    turns = [moved(other, x - b) for x in thing for b in other]
    return all(len(set(thing) & set(turn)) <= 1 for turn in turns)


def really_holds(one, other, thing):
    """Point 42 by its words."""
    if type(thing) is not tuple or len(thing) != 2 or not really_spread(one, other, thing[0]):
        return False
    if type(thing[1]) is not list or len(thing[1]) != len(one):
        return False
    for row, number in zip(thing[1], one):
        if type(row) is not tuple or [type(part) for part in row] != [int] * 3:
            return False
        x, b, c = row
        if x not in thing[0] or b not in other or c not in other or x + b - c != number:
            return False
    return True


def subsets(numbers):
    return [some for many in range(len(numbers) + 1) for some in itertools.combinations(numbers, many)]


def fewest_by_trying(one, other):
    turns = sorted({a - b for a in one for b in other})
    many = 0
    while not any(really_cover(one, other, some) for some in itertools.combinations(turns, many)):
        many += 1
    return many


def most_by_trying(one, other):
    return max(len(some) for some in subsets(one) if really_spread(one, other, some))


def pairs_of_small_sets():
    ones = small_sets(0, 6, 4)[::3] + [(0, 1, 2, 3, 4), (0, 1, 2, 3, 4, 5), (0, 2, 3, 7, 8), (-FAR, 0, 1, FAR)]
    others = [(0,), (5,), (0, 1), (0, 2), (-1, 3), (0, 1, 2), (0, 1, 3), (0, 2, 4), (0, 1, 2, 3), (-FAR, 0, 1), (0, FAR)]
    return list(itertools.product(ones, others))


def pairs_of_sets():
    forms = sets_of_many_forms() + scattered_sets()[::3]
    return [(one, other) for one in forms for other in forms if other]


def hard_pairs():
    """Ten numbers, and second sets of sixty whose turns hold as many unlike lots as can be."""
    rows = [tuple(range(0, 10 * step, step)) for step in (1, 2, 7)]
    ones = rows + [(0, 1, 3, 7, 12, 20, 30, 44, 65, 80), tuple(place * place for place in range(10)),
                   tuple(FAR * place * place for place in range(10))]
    mixed = []
    at = 0
    for place in range(60):
        at += 1 + (place * place * 7 + place // 3) % 3
        mixed.append(at)
    squares = tuple(place * place for place in range(60))
    others = [SIXTY, tuple(mixed), squares, tuple(2 ** place for place in range(60)), grown(tuple(mixed), FAR), (0, 3)]
    return list(itertools.product(ones, others))


class Cover(Case):
    def test_some_sets(self):
        self.assertEqual(cover((), (5,)), ())
        self.assertEqual(cover((), SIXTY), ())
        self.assertEqual(cover((4,), (1,)), (3,))
        self.assertEqual(cover((0, 1, 2, 3), (10, 11, 12, 13)), (-10,))
        self.assertEqual(cover((1, 2, 5), (0,)), (1, 2, 5))
        self.assertEqual(len(cover((0, 1, 2, 3, 4), (0, 1))), 3)
        self.assertEqual(cover((-FAR, FAR), (0, 2 * FAR)), (-FAR,))

    def test_the_turn_that_holds_most_is_not_always_best(self):
        # One turn holds 1, 2, 3 and 4, but then 0 and 5 need one each; 0, 1, 2 and 3, 4, 5 do with two.
        other = (0, 1, 2, 100, 101, 102, 201, 202, 203, 204, 300)
        one = (0, 1, 2, 3, 4, 5)
        self.assertTrue(really_cover(one, other, (-97, 0)))
        self.assertEqual(len(cover(one, other)), 2)
        self.assertTrue(really_cover(one, other, cover(one, other)))

    def test_as_few_as_can_be(self):
        for one, other in pairs_of_small_sets():
            with self.subTest(one=one, other=other):
                told = cover(one, other)
                self.assertTrue(really_cover(one, other, told))
                self.assertEqual(len(told), fewest_by_trying(one, other))
                self.assert_answer(True, is_cover, one, other, told)

    def test_ten_numbers_in_short_time(self):
        start = time.process_time()
        for one, other in hard_pairs():
            with self.subTest(one=one, other=other):
                self.assertEqual(len(one), 10)
                told = cover(one, other)
                self.assertTrue(really_cover(one, other, told))
                self.assertGreaterEqual(len(told), len(spread(one, other)))
        self.assertLess(time.process_time() - start, 5)

    def test_few_turns_of_ten_numbers_by_trying(self):
        for one, other in hard_pairs():
            told = cover(one, other)
            if len(told) in (2, 3):
                turns = sorted({a - b for a in one for b in other})[::1 if len(told) == 2 else 8]
                with self.subTest(one=one, other=other):
                    for fewer in itertools.combinations(turns, len(told) - 1):
                        self.assertFalse(set(one) <= {b + turn for b in other for turn in fewer})


class IsCover(Case):
    def test_all_sets_of_few_numbers(self):
        for one, other in (((), (3,)), ((2,), (0, 1)), ((0, 1, 3), (0, 1)), ((0, 1, 2), (0, 2)), ((0, 4), (-1, 3))):
            for thing in small_sets(-4, 4, 4):
                self.assert_answer(really_cover(one, other, thing), is_cover, one, other, thing)

    def test_any_first_set_and_however_many_numbers(self):
        self.assert_answer(True, is_cover, SIXTY, (0, 1), tuple(range(0, 60, 2)))
        self.assert_answer(False, is_cover, SIXTY, (0, 1), tuple(range(2, 60, 2)))
        self.assert_answer(True, is_cover, SIXTY, SIXTY, (0,))
        self.assert_answer(True, is_cover, (0, 1, 5), (0, 1), tuple(range(-500, 500)))
        self.assert_answer(False, is_cover, (0, 1, 5000), (0, 1), tuple(range(-500, 500)))
        self.assert_answer(True, is_cover, SIXTY, SIXTY, tuple(range(-40000, 40000)))
        self.assert_answer(True, is_cover, (), (7,), ())
        self.assert_answer(True, is_cover, (), (7,), SIXTY)
        self.assert_answer(False, is_cover, (7,), (7,), ())
        self.assert_answer(True, is_cover, (FAR,), (-FAR,), (-5, 2 * FAR))

    def test_good_ones_bent_at_each_place(self):
        for one, other in (((4,), (1,)), ((0, 1, 2, 3, 4), (0, 1)), ((-FAR, 0, 1), (0, FAR)), ((1, 2, 5), (0, 3))):
            good = cover(one, other)
            for thing in bent(good) + bent(moved(good, 1)) + bent((-3, 0, 1, 7)):
                self.assert_answer(really_cover(one, other, thing), is_cover, one, other, thing)

    def test_truths_are_no_numbers(self):
        self.assert_answer(True, is_cover, (1,), (0,), (1,))
        self.assert_answer(False, is_cover, (1,), (0,), (True,))
        self.assert_answer(False, is_cover, (0, 1), (0,), (False, True))

    def test_things_of_other_kinds(self):
        for thing in things_of_other_kinds():
            for one, other in (((), (0,)), ((2,), (0, 1)), ((1, 2, 3), (0,)), (SIXTY, SIXTY)):
                self.assert_answer(really_cover(one, other, thing), is_cover, one, other, thing)


class Spread(Case):
    def test_some_sets(self):
        self.assertEqual(spread((), (5,)), ())
        self.assertEqual(spread((4,), SIXTY), (4,))
        self.assertEqual(spread((1, 2, 5), (0,)), (1, 2, 5))
        self.assertEqual(spread((0, 1, 2, 3, 4), (0, 1)), (0, 2, 4))
        self.assertEqual(len(spread((0, 1, 2, 3), (10, 11, 12, 13))), 1)
        self.assertEqual(spread((0, 3, 6), (0, 3)), (0, 6))

    def test_going_up_without_care_is_not_always_best(self):
        # With 0 in it no other number can be.
        self.assertEqual(spread((0, 1, 3, 7), (0, 1, 100, 103, 1000, 1007)), (1, 3, 7))

    def test_as_many_as_can_be(self):
        for one, other in pairs_of_small_sets():
            with self.subTest(one=one, other=other):
                told = spread(one, other)
                self.assertTrue(really_spread(one, other, told))
                self.assertEqual(len(told), most_by_trying(one, other))
                self.assert_answer(True, is_spread, one, other, told)

    def test_ten_numbers_in_short_time(self):
        start = time.process_time()
        told = [spread(one, other) for one, other in hard_pairs()]
        self.assertLess(time.process_time() - start, 5)
        for some, (one, other) in zip(told, hard_pairs()):
            gaps = {b - c for b in other for c in other}
            apart = [set(x) for x in itertools.combinations(one, 2) if x[1] - x[0] in gaps]
            free = [len(lot) for lot in subsets(one) if not any(two <= set(lot) for two in apart)]
            with self.subTest(one=one, other=other):
                self.assertTrue(set(some) <= set(one) and not any(two <= set(some) for two in apart))
                self.assertEqual(len(some), max(free))


class IsSpread(Case):
    def test_all_sets_of_few_numbers(self):
        for one, other in (((), (3,)), ((2,), (0, 1)), ((0, 1, 3), (0, 1)), ((-2, 0, 1, 2), (0, 2)), ((0, 4), (-1, 3))):
            for thing in small_sets(-3, 4, 4):
                self.assert_answer(really_spread(one, other, thing), is_spread, one, other, thing)

    def test_any_first_set(self):
        self.assert_answer(True, is_spread, SIXTY, (0, 1), tuple(range(0, 60, 2)))
        self.assert_answer(False, is_spread, SIXTY, (0, 1), tuple(range(0, 60, 2)) + (59,))
        self.assert_answer(True, is_spread, SIXTY, (7,), SIXTY)
        self.assert_answer(False, is_spread, SIXTY, (7,), SIXTY + (60,))
        self.assert_answer(False, is_spread, SIXTY, (7,), tuple(range(5000)))
        self.assert_answer(True, is_spread, SIXTY, SIXTY, (30,))
        self.assert_answer(False, is_spread, SIXTY, SIXTY, (0, 59))
        self.assert_answer(True, is_spread, SIXTY, SIXTY[:59], (0, 59))

    def test_two_that_are_far_apart_in_the_tuple(self):
        self.assert_answer(False, is_spread, (0, 1, 2, 3), (0, 3), (0, 1, 2, 3))
        self.assert_answer(False, is_spread, (0, 1, 2, 3), (0, 3), (0, 2, 3))
        self.assert_answer(True, is_spread, (0, 1, 2, 3), (0, 3), (0, 1, 2))
        self.assert_answer(False, is_spread, (-FAR, 0, FAR), (0, 2 * FAR), (-FAR, 0, FAR))

    def test_good_ones_bent_at_each_place(self):
        for one, other in (((4,), (1,)), ((0, 1, 2, 3, 4), (0, 1)), ((-FAR, 0, 1), (0, FAR)), ((1, 2, 3, 5), (0, 3))):
            for thing in bent(spread(one, other)) + bent(one):
                self.assert_answer(really_spread(one, other, thing), is_spread, one, other, thing)

    def test_truths_are_no_numbers(self):
        self.assert_answer(True, is_spread, (0, 1), (0,), (0, 1))
        self.assert_answer(False, is_spread, (0, 1), (0,), (False, True))
        self.assert_answer(False, is_spread, (0, 1), (0,), (True,))

    def test_things_of_other_kinds(self):
        for thing in things_of_other_kinds():
            for one, other in (((), (0,)), ((2,), (0, 1)), ((1, 2, 3), (0,)), (SIXTY, SIXTY)):
                self.assert_answer(really_spread(one, other, thing), is_spread, one, other, thing)


class CoversAndSpreads(Case):
    def test_no_cover_has_fewer_numbers_than_a_spread(self):
        for one, other in pairs_of_small_sets() + [pair for pair in pairs_of_sets() if len(pair[0]) <= 10]:
            with self.subTest(one=one, other=other):
                self.assertGreaterEqual(len(cover(one, other)), len(spread(one, other)))

    def test_of_all_covers_and_all_spreads(self):
        for one, other in (((0, 1, 3), (0, 1)), ((-2, 0, 1, 2), (0, 2))):
            most = max(len(some) for some in small_sets(-4, 4, 4) if is_spread(one, other, some))
            fewest = min(len(some) for some in small_sets(-4, 4, 4) if is_cover(one, other, some))
            self.assertEqual(most, len(spread(one, other)))
            self.assertEqual(fewest, len(cover(one, other)))
            self.assertGreaterEqual(fewest, most)


class CoverByDifferences(Case):
    def test_some_sets(self):
        self.assertEqual(cover_by_differences((), (5,)), ((), []))
        self.assertEqual(cover_by_differences((4,), (5,)), ((4,), [(4, 5, 5)]))
        self.assertEqual(cover_by_differences((1, FAR), (5,)), ((1, FAR), [(1, 5, 5), (FAR, 5, 5)]))

    def test_by_the_words(self):
        for one, other in pairs_of_small_sets() + pairs_of_sets():
            with self.subTest(one=one, other=other):
                told = cover_by_differences(one, other)
                self.assertTrue(really_holds(one, other, told))
                self.assert_answer(True, cover_by_differences_holds, one, other, told)
                self.assert_answer(True, is_spread, one, other, told[0])

    def test_the_spread_and_the_second_set_have_unlike_sums(self):
        for one, other in pairs_of_small_sets() + pairs_of_sets():
            chosen = cover_by_differences(one, other)[0]
            with self.subTest(one=one, other=other):
                self.assertEqual(len(sums(chosen, other)), len(chosen) * len(other))
                self.assertLessEqual(len(chosen) * len(other), len(sums(one, other)))
                if len(one) <= 10:
                    self.assertLessEqual(len(spread(one, other)) * len(other), len(sums(one, other)))

    def test_what_is_told_is_the_askers_own(self):
        self.assert_own(cover_by_differences, (0, 1, 2, 5), (0, 1))
        self.assert_own(cover_by_differences, (), (0, 1))

    def test_sixty_in_short_time(self):
        start = time.process_time()
        doubled = tuple(2 ** place - FAR for place in range(60))
        for one, other in ((SIXTY, SIXTY), (doubled, doubled), (doubled, SIXTY), (SIXTY, doubled), (SIXTY, (0, 1))):
            told = cover_by_differences(one, other)
            self.assertIs(cover_by_differences_holds(one, other, told), True)
        self.assertLess(time.process_time() - start, 5)


class CoverByDifferencesHolds(Case):
    def test_any_spread_that_reaches_all(self):
        one, other = (0, 1, 2), (0, 1)
        rows = [(1, 0, 1), (1, 1, 1), (1, 1, 0)]
        self.assert_answer(True, cover_by_differences_holds, one, other, ((1,), rows))
        self.assert_answer(True, cover_by_differences_holds, one, other, ((1,), [(1, 0, 1), (1, 0, 0), (1, 1, 0)]))
        self.assert_answer(True, cover_by_differences_holds, one, other, ((0, 2), [(0, 1, 1), (2, 0, 1), (2, 0, 0)]))
        self.assert_answer(True, cover_by_differences_holds, one, other, ((0, 2), [(0, 1, 1), (0, 1, 0), (2, 0, 0)]))
        self.assert_answer(False, cover_by_differences_holds, one, other, ((0, 1), rows))
        self.assert_answer(False, cover_by_differences_holds, one, other, ((0, 1, 2), rows))
        self.assert_answer(False, cover_by_differences_holds, one, other, ((2,), rows))
        self.assert_answer(False, cover_by_differences_holds, one, other, ((), rows))
        self.assert_answer(False, cover_by_differences_holds, one, other, ((1,), [(1, 1, 2), (1, 1, 1), (1, 1, 0)]))
        self.assert_answer(False, cover_by_differences_holds, one, other, ((1,), [(1, -1, 0), (1, 1, 1), (1, 1, 0)]))
        self.assert_answer(False, cover_by_differences_holds, one, other, ((1,), [(0, 0, 0), (1, 1, 1), (1, 1, 0)]))

    def test_a_number_beside_the_spread_reaches_nothing(self):
        # 0 and 1 lie in one turn, so 0 may not be of the spread, but may not be used beside it either.
        self.assert_answer(False, cover_by_differences_holds, (0, 1), (0, 1), ((1,), [(0, 0, 0), (1, 1, 1)]))
        self.assert_answer(True, cover_by_differences_holds, (0, 1), (0, 1), ((1,), [(1, 0, 1), (1, 1, 1)]))

    def test_no_numbers(self):
        self.assert_answer(True, cover_by_differences_holds, (), (3,), ((), []))
        for thing in ([(), []], ((), ()), ([], []), ((0,), []), ((), [(0, 3, 3)]), ((),), ((), [], []), ()):
            self.assert_answer(False, cover_by_differences_holds, (), (3,), thing)

    def test_good_ones_bent_at_each_place(self):
        cases = (((4,), (5,)), ((0, 1, 2), (0, 1)), ((-FAR, 0, 1, 5), (0, FAR)), ((1, 2, 3, 5), (-1, 0, 1)))
        for one, other in cases:
            good = cover_by_differences(one, other)
            for thing in bent(good):
                self.assert_answer(
                    really_holds(one, other, thing), cover_by_differences_holds, one, other, thing)

    def test_things_of_other_kinds(self):
        for one, other in (((), (0,)), ((2,), (0, 1)), ((1, 2, 3), (0,)), (SIXTY, SIXTY)):
            chosen, rows = cover_by_differences(one, other)
            for kind in things_of_other_kinds():
                things = [kind, (kind, rows), (chosen, kind), (chosen, [kind] * len(one)), (chosen, rows + [kind])]
                for thing in things:
                    self.assert_answer(
                        really_holds(one, other, thing), cover_by_differences_holds, one, other, thing)


ASKS = (
    cover,
    spread,
    cover_by_differences,
    lambda one, other: is_cover(one, other, (0,)),
    lambda one, other: is_cover(one, other, None),
    lambda one, other: is_spread(one, other, ()),
    lambda one, other: is_spread(one, other, [1]),
    lambda one, other: cover_by_differences_holds(one, other, ((), [])),
    lambda one, other: cover_by_differences_holds(one, other, 5),
)


class HandedIn(Case):
    def test_no_set_goes_ahead_of_all_else(self):
        for ask in ASKS:
            self.assert_needs_sets(ask)

    def test_the_second_set_without_numbers(self):
        for ask in ASKS:
            for some in ((), (0,), (0, 1, 5), ELEVEN, SIXTY):
                self.assert_refused(NoNumber, ask, some, ())

    def test_more_than_ten_numbers(self):
        for ask in (cover, spread):
            for other in ((0,), (0, 1), SIXTY):
                self.assert_refused(TooMany, ask, ELEVEN, other)
                self.assert_refused(TooMany, ask, SIXTY, other)
                self.assertGreaterEqual(len(ask(ELEVEN[:10], other)), 1)

    def test_the_others_take_more_than_ten(self):
        for ask in ASKS[2:]:
            ask(ELEVEN, (0, 1))
            ask(SIXTY, SIXTY)


if __name__ == "__main__":
    unittest.main()
