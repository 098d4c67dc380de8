"""Points 70, 73 and 74: fewsumlots.plains."""

import itertools
import time
import unittest

from fewsumlots.errors import NoNumber, NoSet
from fewsumlots.maps import freedom, ties
from fewsumlots.plains import first_tie, is_plain, led_on, shortest_ruler
from fewsumlots.sets import grown, moved
from fewsumlots.sums import differences, sums
from tests.helper import (
    FAR, SIXTY, SIXTY_ONE, Case, scattered_sets, sets_of_many_forms, small_sets, things_that_are_no_numbers,
)

DOUBLED = tuple(2 ** place for place in range(60))


def ties_by_trying(some):
    """Point 51 by its words, rising."""
    return sorted(
        (a, b, c, d) for a, b, c, d in itertools.product(some, repeat=4) if a + b == c + d and a < c <= d < b)


def plain_by_differences(some):
    """Whether all differences of two unlike numbers are unlike: another way to say that there is no tie."""
    gaps = [high - low for low, high in itertools.combinations(some, 2)]
    return len(set(gaps)) == len(gaps)


def led_on_by_trying(some, many):
    for _ in range(many):
        number = some[-1] + 1 if some else 0
        while not plain_by_differences(some + (number,)):
            number += 1
        some += (number,)
    return some


def rulers_by_trying(marks, length):
    """All rulers of this length, as tuples are ordered."""
    if marks == 1:
        return [(0,)] if length == 0 else []
    if length == 0:
        return []
    within = itertools.combinations(range(1, length), marks - 2)
    return [some for some in [(0, *inner, length) for inner in within] if plain_by_differences(some)]


def plain_sets():
    told = [some for some in small_sets(-3, 6, 5) + sets_of_many_forms() + scattered_sets() if plain_by_differences(some)]
    return told + [DOUBLED[:many] for many in (6, 12, 23, 24)] + [(-FAR, 0, FAR + 1), (-FAR, FAR - 1, FAR)]


class IsPlain(Case):
    def test_some_sets(self):
        for some in ((), (5,), (0, 9), (-FAR, FAR), (0, 1, 3), (0, 1, 4, 6), DOUBLED, moved(DOUBLED, -FAR)):
            self.assert_answer(True, is_plain, some)
            self.assertIsNone(first_tie(some))
        for some in ((0, 1, 2), (-FAR, 0, FAR), (0, 1, 10, 11), SIXTY, DOUBLED[:59] + (2 ** 59 - 1,)):
            self.assert_answer(False, is_plain, some)
        self.assertEqual(first_tie((0, 1, 2)), (0, 2, 1, 1))
        self.assertEqual(first_tie((0, 1, 10, 11)), (0, 11, 1, 10))
        self.assertEqual(first_tie((-FAR, 0, FAR)), (-FAR, FAR, 0, 0))
        self.assertEqual(first_tie(SIXTY), (0, 2, 1, 1))
        self.assertEqual(first_tie((0, 1, 3, 7, 11, 15)), (3, 11, 7, 7))
        self.assertEqual(first_tie(DOUBLED[:59] + (2 ** 59 - 1,)), (1, 2 ** 59 - 1, 2 ** 58, 2 ** 58))

    def test_the_first_of_all_ties(self):
        for some in small_sets(-3, 6, 5) + [some for some in sets_of_many_forms() + scattered_sets() if len(some) <= 14]:
            told = ties_by_trying(some)
            self.assert_answer(not told, is_plain, some)
            with self.subTest(some=some):
                self.assertEqual(first_tie(some), told[0] if told else None)
                if told:
                    self.assertIs(type(first_tie(some)), tuple)

    def test_great_sets(self):
        for some in sets_of_many_forms() + scattered_sets() + [SIXTY, DOUBLED]:
            self.assert_answer(plain_by_differences(some), is_plain, some)
            self.assertEqual(first_tie(some), (ties(some) + [None])[0])

    def test_so_many_sums_and_differences(self):
        for some in plain_sets():
            n = len(some)
            with self.subTest(some=some):
                self.assertEqual(len(sums(some, some)), n * (n + 1) // 2)
                self.assertEqual(len(differences(some, some)), n * (n - 1) + 1 if some else 0)

    def test_plain_just_where_it_has_so_many_sums(self):
        for some in small_sets(-3, 6, 6) + sets_of_many_forms() + scattered_sets():
            n = len(some)
            with self.subTest(some=some):
                self.assertEqual(is_plain(some), len(sums(some, some)) == n * (n + 1) // 2)

    def test_plain_just_where_its_freedom_is_so_much(self):
        chosen = [some for some in sets_of_many_forms() + scattered_sets() if len(some) <= 20]
        for some in small_sets(-2, 6, 5) + chosen:
            with self.subTest(some=some):
                self.assertEqual(is_plain(some), freedom(some) == len(some))

    def test_sixty_in_short_time(self):
        start = time.process_time()
        for some in (SIXTY, DOUBLED, grown(SIXTY, -FAR), grown(DOUBLED, FAR)):
            self.assertEqual(is_plain(some), first_tie(some) is None)
        self.assertLess(time.process_time() - start, 5)


class ShortestRuler(Case):
    def test_the_rulers(self):
        rulers = [(0,), (0, 1), (0, 1, 3), (0, 1, 4, 6), (0, 1, 4, 9, 11), (0, 1, 4, 10, 12, 17)]
        for marks, ruler in enumerate(rulers, start=1):
            self.assertEqual(shortest_ruler(marks), ruler)

    def test_the_first_of_the_least_length_by_all_sets(self):
        for marks in range(1, 7):
            told = shortest_ruler(marks)
            with self.subTest(marks=marks):
                self.assert_set(told)
                self.assertEqual(len(told), marks)
                for length in range(told[-1]):
                    self.assertEqual(rulers_by_trying(marks, length), [])
                self.assertEqual(rulers_by_trying(marks, told[-1])[0], told)

    def test_a_length_of_so_many_differences_at_least(self):
        for marks in range(1, 7):
            self.assertGreaterEqual(shortest_ruler(marks)[-1], marks * (marks - 1) // 2)
        for some in plain_sets():
            if some:
                self.assertGreaterEqual(some[-1] - some[0], len(some) * (len(some) - 1) // 2)

    def test_what_is_no_such_number(self):
        for thing in things_that_are_no_numbers() + [0, -1, 7, 8, FAR, -FAR, 6.0]:
            self.assert_refused(NoNumber, shortest_ruler, thing)

    def test_six_marks_in_short_time(self):
        start = time.process_time()
        self.assertEqual(shortest_ruler(6), shortest_ruler(6))
        self.assertLess(time.process_time() - start, 5)


class LedOn(Case):
    def test_some_sets(self):
        self.assertEqual(led_on((), 0), ())
        self.assertEqual(led_on((), 1), (0,))
        self.assertEqual(led_on((), 8), (0, 1, 3, 7, 12, 20, 30, 44))
        self.assertEqual(led_on((5,), 0), (5,))
        self.assertEqual(led_on((5,), 2), (5, 6, 8))
        self.assertEqual(led_on((-3, 4), 1), (-3, 4, 5))
        self.assertEqual(led_on((-FAR,), 3), (-FAR, -FAR + 1, -FAR + 3, -FAR + 7))
        # The gap of 1 is taken already.
        self.assertEqual(led_on((0, 1, FAR), 1), (0, 1, FAR, FAR + 2))
        self.assertEqual(led_on((-1, 0), 1), (-1, 0, 2))

    def test_the_least_above_all_each_time(self):
        for some in plain_sets():
            if len(some) <= 20:
                with self.subTest(some=some):
                    told = led_on(some, 4)
                    self.assert_set(told)
                    self.assertEqual(told, led_on_by_trying(some, 4))

    def test_by_none(self):
        for some in plain_sets():
            if len(some) <= 24:
                self.assertEqual(led_on(some, 0), some)

    def test_by_as_many_as_are_let_by(self):
        for some in ((), (7,), (-FAR, FAR), (0, 1, 3), (-FAR, -FAR + 1, 0), DOUBLED[:10], DOUBLED[:23], DOUBLED[:24]):
            with self.subTest(some=some):
                told = led_on(some, 24 - len(some))
                self.assertEqual(len(told), 24)
                self.assertEqual(told, led_on_by_trying(some, 24 - len(some)))
                self.assertIs(is_plain(told), True)
                self.assert_refused(NoNumber, led_on, some, 25 - len(some))

    def test_step_by_step_as_at_once(self):
        some = (-FAR, 3)
        for many in range(23):
            self.assertEqual(led_on((-FAR, 3), many), some)
            if many < 22:
                some = led_on(some, 1)

    def test_what_is_no_such_number(self):
        for thing in things_that_are_no_numbers() + [-1, -2, 25, 26, FAR, -FAR, 0.0]:
            for some in ((), (0,), (0, 1, 3), DOUBLED[:24]):
                self.assert_refused(NoNumber, led_on, some, thing)

    def test_more_than_twenty_four_to_begin_with(self):
        for some in (DOUBLED[:25], DOUBLED):
            for many in (0, 1, -25, None):
                self.assert_refused(NoNumber, led_on, some, many)

    def test_a_set_that_is_not_plain(self):
        for some in ((0, 1, 2), (-FAR, 0, FAR), (0, 1, 10, 11), SIXTY, tuple(range(24))):
            for many in (0, 1, -1, 24, None, True, FAR):
                self.assert_refused(NoSet, led_on, some, many)

    def test_in_short_time(self):
        start = time.process_time()
        for some in ((), (-FAR, FAR), (0, FAR, 3 * FAR)):
            led_on(some, 24 - len(some))
        self.assertLess(time.process_time() - start, 5)


class HandedIn(Case):
    def test_no_set_goes_ahead_of_all_else(self):
        self.assert_needs_set(is_plain)
        self.assert_needs_set(first_tie)
        for many in (0, 1, -1, 25, None, True, "1"):
            self.assert_needs_set(lambda some: led_on(some, many))

    def test_sixty_one_numbers(self):
        for some in (SIXTY_ONE, DOUBLED + (2 ** 60,)):
            for ask in (is_plain, first_tie, lambda some: led_on(some, 0)):
                self.assert_refused(NoSet, ask, some)


if __name__ == "__main__":
    unittest.main()
