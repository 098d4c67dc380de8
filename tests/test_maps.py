"""Points 50, 51 and 52: fewsumlots.maps."""

import fractions
import itertools
import time
import unittest

from fewsumlots.errors import NoMap, TooMany
from fewsumlots.maps import broken_tie, freedom, free_paper, is_free_paper, keeps_sums, ties
from fewsumlots.sets import grown, moved
from tests.helper import (
    FAR, SIXTY, Case, bent, scattered_sets, sets_of_many_forms, small_sets, things_of_other_kinds,
    things_that_are_no_numbers,
)

TWENTY_FOUR = tuple(range(24))
TWENTY_FIVE = tuple(range(25))
DOUBLED = tuple(2 ** place for place in range(60))


def really_map(some, thing):
    return type(thing) is list and [type(value) for value in thing] == [int] * len(some)


def really_keeps(some, thing):
    """Point 50 by its words: any two pairs."""
    if not really_map(some, thing):
        return False
    led = dict(zip(some, thing))
    pairs = list(itertools.combinations_with_replacement(some, 2))
    return all(
        led[a] + led[b] == led[c] + led[d] for a, b in pairs for c, d in pairs if a + b == c + d)


def ties_by_trying(some):
    """Point 51 by its words, rising."""
    return sorted(
        (a, b, c, d) for a, b, c, d in itertools.product(some, repeat=4) if a + b == c + d and a < c <= d < b)


def rank(rows):
    """How many rows can be chosen at most, none a sum of fractions of the others."""
    left = [[fractions.Fraction(number) for number in row] for row in rows]
    many = 0
    for place in range(len(left[0]) if left else 0):
        at = [row for row in left if row[place]]
        if at:
            many += 1
            left.remove(at[0])
            left = [[x - y * row[place] / at[0][place] for x, y in zip(row, at[0])] for row in left]
    return many


def row_of(some, tie):
    a, b, c, d = tie
    return [(number == a) + (number == b) - (number == c) - (number == d) for number in some]


def freedom_by_ties(some):
    return len(some) - rank([row_of(some, tie) for tie in ties_by_trying(some)])


def really_paper(some, thing):
    """Point 52 by its words."""
    if type(thing) is not tuple or len(thing) != 2 or [type(part) for part in thing] != [list, list]:
        return False
    maps, kept = thing
    if len(maps) + len(kept) != len(some) or not all(really_keeps(some, values) for values in maps):
        return False
    # Shown as text, 1 and True are unlike, and so are lists and tuples.
    good = {repr(tie) for tie in ties_by_trying(some)}
    if not all(repr(tie) in good for tie in kept):
        return False
    return rank(maps) == len(maps) and rank([row_of(some, tie) for tie in kept]) == len(kept)


def small_forms():
    return [some for some in sets_of_many_forms() + scattered_sets() if len(some) <= 14]


class KeepsSums(Case):
    def test_some_maps(self):
        self.assert_answer(True, keeps_sums, (), [])
        self.assert_answer(True, keeps_sums, (5,), [FAR])
        self.assert_answer(True, keeps_sums, (0, 1), [7, -FAR])
        self.assert_answer(True, keeps_sums, (0, 1, 2), [5, 5, 5])
        self.assert_answer(True, keeps_sums, (0, 1, 2), [3, 0, -3])
        self.assert_answer(False, keeps_sums, (0, 1, 2), [0, 1, 3])
        self.assert_answer(True, keeps_sums, (0, 1, 3), [0, 1, 100])
        self.assert_answer(True, keeps_sums, (0, 1, 10, 11), [0, 5, 2, 7])
        self.assert_answer(False, keeps_sums, (0, 1, 10, 11), [0, 5, 2, 8])
        self.assert_answer(True, keeps_sums, (-FAR, 0, FAR), [1, 2, 3])
        self.assert_answer(False, keeps_sums, (-FAR, 0, FAR), [1, 2, 4])

    def test_all_small_maps(self):
        for some in ((), (3,), (0, 5), (0, 1, 2), (0, 1, 3), (-1, 0, 1, 2), (0, 1, 3, 4)):
            for values in itertools.product(range(-1, 3), repeat=len(some)):
                self.assert_answer(really_keeps(some, list(values)), keeps_sums, some, list(values))

    def test_moved_grown_and_all_led_to_one(self):
        for some in sets_of_many_forms() + scattered_sets():
            for values in ([7] * len(some), [-3 * number + FAR for number in some], list(some)):
                self.assert_answer(True, keeps_sums, some, values)

    def test_a_plain_set_is_led_anywhere(self):
        self.assert_answer(True, keeps_sums, DOUBLED, [place ** 3 - FAR for place in range(60)])

    def test_good_ones_bent_at_each_place(self):
        for some in ((5,), (0, 1), (0, 1, 2), (0, 1, 3), (-FAR, 0, FAR), (0, 1, 10, 11), (-2, -1, 0, 1, 5)):
            for good in (list(some), [2 * number + 1 for number in some], [0] * len(some)):
                for thing in bent(good):
                    self.assert_answer(really_keeps(some, thing), keeps_sums, some, thing)

    def test_as_many_values_as_numbers(self):
        self.assert_answer(False, keeps_sums, (), [0])
        self.assert_answer(False, keeps_sums, (0, 1, 3), [])
        self.assert_answer(False, keeps_sums, (0, 1, 3), [1, 2])
        self.assert_answer(False, keeps_sums, (0, 1, 3), [1, 2, 3, 4])
        self.assert_answer(False, keeps_sums, (0, 1, 3), (0, 1, 3))

    def test_things_of_other_kinds(self):
        for thing in things_of_other_kinds():
            for some in ((), (0,), (0, 1), (0, 1, 2), SIXTY):
                self.assert_answer(really_keeps(some, thing), keeps_sums, some, thing)

    def test_sixty_in_short_time(self):
        start = time.process_time()
        self.assertIs(keeps_sums(SIXTY, list(SIXTY)), True)
        self.assertIs(keeps_sums(SIXTY, list(SIXTY[:59]) + [60]), False)
        self.assertIs(keeps_sums(DOUBLED, list(SIXTY)), True)
        self.assertLess(time.process_time() - start, 5)


class Ties(Case):
    def test_some_sets(self):
        for some in ((), (5,), (0, 9), (0, 1, 3), (-FAR, FAR), DOUBLED):
            self.assertEqual(ties(some), [])
        self.assertEqual(ties((0, 1, 2)), [(0, 2, 1, 1)])
        self.assertEqual(ties((0, 1, 2, 3)), [(0, 2, 1, 1), (0, 3, 1, 2), (1, 3, 2, 2)])
        self.assertEqual(ties((0, 1, 10, 11)), [(0, 11, 1, 10)])
        self.assertEqual(ties((-FAR, 0, FAR)), [(-FAR, FAR, 0, 0)])

    def test_all_of_them_rising(self):
        for some in small_sets(-3, 5, 6) + small_forms():
            with self.subTest(some=some):
                told = ties(some)
                self.assertIs(type(told), list)
                self.assertEqual(told, ties_by_trying(some))
                for tie in told:
                    self.assertIs(type(tie), tuple)

    def test_what_is_told_is_the_askers_own(self):
        self.assert_own(ties, (0, 1, 2, 3))
        self.assert_own(ties, ())

    def test_sixty_in_short_time(self):
        start = time.process_time()
        told = ties(SIXTY)
        self.assertLess(time.process_time() - start, 5)
        self.assertEqual(told, sorted(set(told)))
        # For each sum, each two of its pairs.
        pairs = [min(number, 118 - number) // 2 + 1 for number in range(119)]
        self.assertEqual(len(told), sum(many * (many - 1) // 2 for many in pairs))
        self.assertEqual(ties(DOUBLED), [])


class BrokenTie(Case):
    def test_some_maps(self):
        self.assertIsNone(broken_tie((), []))
        self.assertIsNone(broken_tie((5,), [FAR]))
        self.assertIsNone(broken_tie((0, 1, 2), [0, 5, 10]))
        self.assertEqual(broken_tie((0, 1, 2), [0, 1, 3]), (0, 2, 1, 1))
        self.assertEqual(broken_tie((0, 1, 2, 3), [0, 1, 2, 4]), (0, 3, 1, 2))
        self.assertEqual(broken_tie((0, 1, 2, 3), [0, 1, 3, 4]), (0, 2, 1, 1))
        self.assertEqual(broken_tie((-FAR, 0, FAR), [0, 0, 1]), (-FAR, FAR, 0, 0))

    def test_the_first_that_it_breaks(self):
        for some in ((), (3,), (0, 1, 2), (0, 1, 3), (-1, 0, 1, 2), (0, 1, 3, 4), (0, 1, 2, 4, 5)):
            for values in itertools.product(range(3), repeat=len(some)):
                led = dict(zip(some, values))
                broken = [tie for tie in ties_by_trying(some)
                          if led[tie[0]] + led[tie[1]] != led[tie[2]] + led[tie[3]]]
                with self.subTest(some=some, values=values):
                    told = broken_tie(some, list(values))
                    self.assertEqual(told, broken[0] if broken else None)
                    self.assertEqual(told is None, keeps_sums(some, list(values)))

    def test_what_was_handed_in_stays(self):
        values = [0, 1, 3]
        broken_tie((0, 1, 2), values)
        self.assertEqual(values, [0, 1, 3])

    def test_what_is_no_map(self):
        for some in ((), (5,), (0, 1, 2), SIXTY):
            for thing in things_of_other_kinds() + bent(list(some[:4])):
                if not really_map(some, thing):
                    self.assert_refused(NoMap, broken_tie, some, thing)
            self.assert_refused(NoMap, broken_tie, some, tuple(some))
            self.assert_refused(NoMap, broken_tie, some, list(some) + [0])
        for place in range(3):
            for wrong in things_that_are_no_numbers():
                values = [0, 1, 2]
                values[place] = wrong
                self.assert_refused(NoMap, broken_tie, (0, 1, 2), values)

    def test_sixty_in_short_time(self):
        start = time.process_time()
        self.assertIsNone(broken_tie(SIXTY, list(SIXTY)))
        self.assertEqual(broken_tie(SIXTY, list(SIXTY[:59]) + [60]), (0, 59, 1, 58))
        self.assertLess(time.process_time() - start, 5)


class Freedom(Case):
    def test_some_sets(self):
        self.assertEqual(freedom(()), 0)
        self.assertEqual(freedom((5,)), 1)
        self.assertEqual(freedom((-FAR, FAR)), 2)
        self.assertEqual(freedom((0, 1, 2)), 2)
        self.assertEqual(freedom((0, 1, 3)), 3)
        self.assertEqual(freedom((0, 1, 10, 11)), 3)
        self.assertEqual(freedom((0, 1, 2, 3)), 2)
        self.assertEqual(freedom(TWENTY_FOUR), 2)
        self.assertEqual(freedom(DOUBLED[:24]), 24)

    def test_by_ties(self):
        for some in small_sets(-3, 5, 6) + small_forms():
            with self.subTest(some=some):
                told = freedom(some)
                self.assertIs(type(told), int)
                self.assertEqual(told, freedom_by_ties(some))

    def test_moved_and_grown(self):
        for some in small_forms():
            with self.subTest(some=some):
                self.assertEqual(freedom(moved(some, FAR)), freedom(some))
                self.assertEqual(freedom(grown(some, -3)), freedom(some))

    def test_two_rows_side_by_side_and_a_lattice(self):
        self.assertEqual(freedom(tuple(range(12)) + tuple(range(1000, 1012))), 3)
        cube = tuple(sorted(a + b + c for a in (0, 1) for b in (0, 10) for c in (0, 100)))
        self.assertEqual(freedom(cube), 4)


def large_sets():
    """Sets of 24 numbers, from as many ties as can be to none."""
    lattice = tuple(a + 100 * b for b in range(4) for a in range(6))
    cubes = tuple(sorted(a + 10 * b + 100 * c + 1000 * d for a in (0, 1) for b in (0, 1) for c in (0, 1, 2) for d in (0, 1)))
    squares = tuple(place * place - FAR for place in range(24))
    gapped = tuple(number for number in range(40) if number % 5 < 3)
    far = tuple(FAR * number for number in gapped)
    return [TWENTY_FOUR, lattice, cubes, squares, gapped, far, DOUBLED[:24], TWENTY_FOUR[:12] + DOUBLED[4:16]]


class FreePaper(Case):
    def test_no_numbers_and_one(self):
        self.assertEqual(free_paper(()), ([], []))
        maps, kept = free_paper((5,))
        self.assertEqual(len(maps), 1)
        self.assertNotEqual(maps[0], [0])
        self.assertEqual(kept, [])

    def test_by_the_words(self):
        for some in small_sets(-3, 4, 6) + small_forms():
            with self.subTest(some=some):
                told = free_paper(some)
                self.assertTrue(really_paper(some, told))
                self.assertEqual(len(told[0]), freedom(some))
                self.assertEqual(len(told[0]) + len(told[1]), len(some))
                self.assert_answer(True, is_free_paper, some, told)

    def test_what_is_told_is_the_askers_own(self):
        for some in ((), (5,), (0, 1, 2), (0, 1, 2, 3), (0, 1, 10, 11), (0, 1, 3)):
            self.assert_own(free_paper, some)

    def test_no_list_stands_twice_in_it(self):
        for some in ((0, 1, 3), TWENTY_FOUR):
            maps, kept = free_paper(some)
            self.assertEqual(len({id(part) for part in maps + [maps, kept]}), len(maps) + 2)

    def test_twenty_four_in_short_time(self):
        start = time.process_time()
        papers = [free_paper(some) for some in large_sets()]
        for some, paper in zip(large_sets(), papers):
            self.assertEqual(len(some), 24)
            self.assertIs(is_free_paper(some, paper), True)
            self.assertEqual(freedom(some), len(paper[0]))
        self.assertLess(time.process_time() - start, 10)
        for some, (maps, kept) in zip(large_sets(), papers):
            with self.subTest(some=some):
                self.assertEqual(len(maps) + len(kept), 24)
                self.assertEqual(rank(maps), len(maps))
                self.assertEqual(rank([row_of(some, tie) for tie in kept]), len(kept))
                for values in maps:
                    self.assertTrue(really_map(some, values))
                    self.assertIsNone(broken_tie(some, values))
                self.assertLessEqual(set(kept), set(ties(some)))


class IsFreePaper(Case):
    def test_other_papers_than_the_told_one(self):
        maps = [[1, 1, 1, 1], [0, 1, 2, 3]]
        all_ties = ties((0, 1, 2, 3))
        for two in itertools.permutations(all_ties, 2):
            self.assert_answer(True, is_free_paper, (0, 1, 2, 3), (maps, list(two)))
        self.assert_answer(True, is_free_paper, (0, 1, 2, 3), ([[3, 2, 1, 0], [FAR, FAR, FAR, FAR]], all_ties[:2]))
        self.assert_answer(True, is_free_paper, (5,), ([[-FAR]], []))
        self.assert_answer(True, is_free_paper, (0, 1, 3), ([[1, 2, 3], [0, 1, 2], [0, 0, 5]], []))

    def test_sums_of_fractions(self):
        tie = [(0, 2, 1, 1)]
        some = (0, 1, 2)
        self.assert_answer(True, is_free_paper, some, ([[1, 1, 1], [0, 1, 2]], tie))
        self.assert_answer(False, is_free_paper, some, ([[1, 1, 1], [0, 0, 0]], tie))
        self.assert_answer(False, is_free_paper, some, ([[1, 1, 1], [1, 1, 1]], tie))
        self.assert_answer(False, is_free_paper, some, ([[2, 2, 2], [-3, -3, -3]], tie))
        self.assert_answer(False, is_free_paper, (5,), ([[0]], []))
        plain = (0, 1, 3)
        # Half of the first and a third of the second come to the last.
        self.assert_answer(False, is_free_paper, plain, ([[2, 0, 4], [0, 3, 6], [1, 1, 4]], []))
        self.assert_answer(True, is_free_paper, plain, ([[2, 0, 4], [0, 3, 6], [1, 1, 5]], []))
        far = [[2 * FAR, 0, 4 * FAR], [0, 3 * FAR, 6 * FAR], [FAR, FAR, 4 * FAR]]
        self.assert_answer(False, is_free_paper, plain, (far, []))
        far[2][2] += 1
        self.assert_answer(True, is_free_paper, plain, (far, []))

    def test_ties_that_are_sums_of_others(self):
        some = (0, 1, 2, 3)
        maps = [[1, 1, 1, 1], [0, 1, 2, 3]]
        kept = ties(some)
        self.assertEqual(row_of(some, kept[1]), [x + y for x, y in zip(row_of(some, kept[0]), row_of(some, kept[2]))])
        self.assert_answer(False, is_free_paper, some, (maps[:1], kept))
        self.assert_answer(False, is_free_paper, some, (maps, kept))
        self.assert_answer(False, is_free_paper, some, (maps, kept[:1] * 2))
        self.assert_answer(False, is_free_paper, some, (maps, kept[:1]))
        self.assert_answer(False, is_free_paper, some, (maps + [[2, 3, 4, 5]], kept[:1]))

    def test_ties_written_otherwise_are_none(self):
        maps = [[1, 1, 1, 1], [0, 1, 10, 11]]
        some = (0, 1, 10, 11)
        third = [[0, 0, 1, 1]]
        self.assert_answer(True, is_free_paper, some, (maps[:1] + [[0, 1, 0, 1]] + third, [(0, 11, 1, 10)]))
        for tie in itertools.permutations((0, 11, 1, 10)):
            thing = (maps[:1] + [[0, 1, 0, 1]] + third, [tie])
            self.assert_answer(tie == (0, 11, 1, 10), is_free_paper, some, thing)
        for tie in ((0, 0, 0, 0), (0, 11, 0, 11), (1, 1, 1, 1), (0, 12, 1, 11), (-1, 12, 0, 11), (0, 11, 5, 6), (0, 2, 1, 1)):
            self.assert_answer(False, is_free_paper, some, (maps[:1] + [[0, 1, 0, 1]] + third, [tie]))

    def test_good_ones_bent_at_each_place(self):
        for some in ((), (5,), (0, 1), (0, 1, 2), (0, 1, 3), (-FAR, 0, FAR), (0, 1, 2, 3), (0, 1, 10, 11)):
            for thing in bent(free_paper(some)):
                self.assert_answer(really_paper(some, thing), is_free_paper, some, thing)

    def test_things_of_other_kinds(self):
        for some in ((), (5,), (0, 1, 2), TWENTY_FOUR):
            maps, kept = free_paper(some)
            for kind in things_of_other_kinds():
                things = [kind, (kind, kept), (maps, kind), (maps[:-1] + [kind], kept), (maps, kept[:-1] + [kind])]
                for thing in things:
                    self.assert_answer(really_paper(some, thing), is_free_paper, some, thing)


ASKS = (
    ties,
    freedom,
    free_paper,
    lambda some: keeps_sums(some, [0]),
    lambda some: keeps_sums(some, None),
    lambda some: broken_tie(some, [0]),
    lambda some: broken_tie(some, None),
    lambda some: is_free_paper(some, ([], [])),
    lambda some: is_free_paper(some, None),
)


class HandedIn(Case):
    def test_no_set_goes_ahead_of_all_else(self):
        for ask in ASKS:
            self.assert_needs_set(ask)

    def test_papers_of_more_than_twenty_four(self):
        for ask in (freedom, free_paper, lambda some: is_free_paper(some, None), lambda some: is_free_paper(some, ([], []))):
            for some in (TWENTY_FIVE, DOUBLED[:25], SIXTY):
                self.assert_refused(TooMany, ask, some)
            ask(TWENTY_FOUR)

    def test_the_others_take_sixty(self):
        self.assertIs(keeps_sums(SIXTY, [1] * 60), True)
        self.assertIsNone(broken_tie(TWENTY_FIVE, [1] * 25))
        self.assertEqual(len(ties(TWENTY_FIVE)) > len(ties(TWENTY_FOUR)), True)


if __name__ == "__main__":
    unittest.main()
