"""Points 2, 3, 4, 10, 34, 54, 64, 74 and 81, over all modules, and the interface."""

import importlib
import inspect
import itertools
import time
import unittest

from fewsumlots.chains import chain, is_chain, just, shows_more
from fewsumlots.covers import (
    cover, cover_by_differences, cover_by_differences_holds, is_cover, is_spread, spread,
)
from fewsumlots.desk import Desk
from fewsumlots.errors import NoSet
from fewsumlots.forms import likeness, sum_form
from fewsumlots.keepers import fewest_sums, filled, keeper, kept_sums
from fewsumlots.maps import broken_tie, free_paper, freedom, is_free_paper, keeps_sums, ties
from fewsumlots.plains import first_tie, is_plain, led_on, shortest_ruler
from fewsumlots.rounds import round_sums, round_turned, round_ways
from fewsumlots.rows import near, row_around, row_set, shows_far
from fewsumlots.sets import form, grown, is_set, moved, set_of
from fewsumlots.sizes import ends_of_sums, set_with_sums, sums_within
from fewsumlots.sums import differences, few_sums, fold_sums, fourfold, pairs, runs, sums, ways
from fewsumlots.texts import read_row, read_set, shown_row, shown_set
from fewsumlots.triangles import are_picks, led_pairs, picks
from tests.helper import (
    FAR, SIXTY, SIXTY_ONE, Case, scattered_sets, sets_of_many_forms, small_sets, spoil, things_that_are_no_sets,
)

# The interface, but for the errors; what it calls `set` is called `some`, as a builtin's name is no parameter.
INTERFACE = {
    "sets": {
        "is_set": "thing", "set_of": "things", "moved": "some by", "grown": "some by", "form": "some",
    },
    "sums": {
        "sums": "one other", "differences": "one other", "few_sums": "some", "fold_sums": "some k", "ways": "one other",
        "pairs": "one other number", "fourfold": "one other", "runs": "some step",
    },
    "rows": {"row_set": "row", "row_around": "some", "near": "some most", "shows_far": "some most thing"},
    "chains": {
        "chain": "one other", "is_chain": "one other thing", "just": "one other", "shows_more": "one other thing",
    },
    "covers": {
        "cover": "one other", "spread": "one other", "is_cover": "one other thing", "is_spread": "one other thing",
        "cover_by_differences": "one other", "cover_by_differences_holds": "one other thing",
    },
    "maps": {
        "keeps_sums": "some thing", "ties": "some", "broken_tie": "some values", "freedom": "some",
        "free_paper": "some", "is_free_paper": "some thing",
    },
    "forms": {"likeness": "one other", "sum_form": "some"},
    "rounds": {"round_sums": "m one other", "round_ways": "m one other", "round_turned": "m some by"},
    "keepers": {
        "keeper": "m some", "filled": "m some step", "kept_sums": "m one other", "fewest_sums": "m many other",
    },
    "plains": {"is_plain": "some", "first_tie": "some", "shortest_ruler": "marks", "led_on": "some many"},
    "sizes": {"ends_of_sums": "many", "set_with_sums": "many number", "sums_within": "many bound"},
    "triangles": {"picks": "one other", "are_picks": "one other thing", "led_pairs": "first one other some"},
    "texts": {"shown_set": "some", "shown_row": "row", "read_set": "text", "read_row": "text"},
}

SET = "a set stands here"

# Each function that is handed a set, but for writing, which refuses nothing: with what else is handed in.
HANDED_SETS = [
    (moved, SET, 1), (grown, SET, 0), (form, SET),
    (sums, SET, SET), (differences, SET, SET), (few_sums, SET), (fold_sums, SET, 2), (ways, SET, SET),
    (pairs, SET, SET, 1), (fourfold, SET, SET), (runs, SET, 1),
    (row_around, SET), (near, SET, 1), (shows_far, SET, 1, [1]),
    (chain, SET, SET), (is_chain, SET, SET, []), (just, SET, SET), (shows_more, SET, SET, ([], (0, 1))),
    (cover, SET, SET), (spread, SET, SET), (is_cover, SET, SET, (0,)), (is_spread, SET, SET, (0,)),
    (cover_by_differences, SET, SET), (cover_by_differences_holds, SET, SET, ((), [])),
    (keeps_sums, SET, [0, 1]), (ties, SET), (broken_tie, SET, [0, 1]), (freedom, SET), (free_paper, SET),
    (is_free_paper, SET, ([], [])),
    (likeness, SET, SET), (sum_form, SET),
    (round_sums, 12, SET, SET), (round_ways, 12, SET, SET), (round_turned, 12, SET, 1),
    (keeper, 12, SET), (filled, 12, SET, 3), (kept_sums, 12, SET, SET),
    (is_plain, SET), (first_tie, SET), (led_on, SET, 1),
    (picks, SET, SET), (are_picks, SET, SET, []), (led_pairs, SET, SET, SET, [(-1, 0, 1), (0, 0, 0), (1, 1, 0)]),
]

IN_ROUNDS = (round_sums, round_ways, round_turned, keeper, filled, kept_sums)

# Questions of every function, whose answers are told again and again.
QUESTIONS = [
    (is_set, (0, 1)), (set_of, [3, 1, 1]), (moved, (0, 2), 5), (grown, (0, 2), -5), (form, (5, 9, 11)),
    (sums, (0, 1), (0, 5)), (differences, (0, 1), (0, 5)), (few_sums, (0, 1, 2)), (fold_sums, (0, 1), 3),
    (ways, (0, 1), (0, 1)), (pairs, (0, 1), (0, 1), 1), (fourfold, (0, 1), (0, 1)), (runs, (1, 2, 7), 1),
    (row_set, (0, 2, 5)), (row_around, (0, 4, 10)), (near, (0, 4, 10), 5), (near, (0, 4, 10), 6),
    (shows_far, (0, 4, 10), 5, [-2, 1]), (chain, (0, 1), (0, 5)), (is_chain, (0, 1), (0, 5), [(0, 0), (0, 5), (1, 5)]),
    (just, (0, 1), (0, 5)), (just, (0, 1), (0, 1)), (shows_more, (0, 1), (0, 5), ([(0, 0), (1, 0), (1, 5)], (0, 5))),
    (cover, (0, 1, 2), (0, 1)), (spread, (0, 1, 2), (0, 1)), (is_cover, (0, 1), (0, 1), (0,)),
    (is_spread, (0, 1), (0, 1), (0,)), (cover_by_differences, (0, 1, 5), (0, 1)),
    (cover_by_differences_holds, (0, 1), (0, 1), ((1,), [(1, 0, 1), (1, 0, 0)])),
    (keeps_sums, (0, 1, 2), [5, 7, 9]), (ties, (0, 1, 2, 3)), (broken_tie, (0, 1, 2), [0, 1, 3]), (freedom, (0, 1, 2)),
    (free_paper, (0, 1, 10, 11)), (is_free_paper, (0, 1, 2), ([[1, 1, 1], [0, 1, 2]], [(0, 2, 1, 1)])),
    (likeness, (0, 1, 2), (5, 7, 9)), (sum_form, (0, 1, 2)), (round_sums, 5, (1, 4), (1, 2)),
    (round_ways, 5, (1, 4), (1, 2)), (round_turned, 5, (1, 4), -7), (keeper, 12, (0, 6)), (filled, 12, (1, 5), 6),
    (kept_sums, 12, (0, 4), (0, 8)), (fewest_sums, 12, 3, 5), (is_plain, (0, 1, 3)), (first_tie, (0, 1, 2)),
    (shortest_ruler, 4), (led_on, (0, 1), 3), (ends_of_sums, 5), (set_with_sums, 5, 12), (sums_within, 3, 5),
    (picks, (0, 1), (0, 1)), (are_picks, (0, 1), (0, 1), [(-1, 0, 1), (0, 1, 1), (1, 1, 0)]),
    (led_pairs, (3, 4), (0, 1), (0, 1), [(-1, 0, 1), (0, 1, 1), (1, 1, 0)]),
    (shown_set, (0, 1)), (shown_row, (0, 2, 5)), (read_set, "0 1"), (read_row, "0:2:5"),
]


def all_functions():
    return [
        getattr(importlib.import_module(f"fewsumlots.{module}"), name)
        for module, names in INTERFACE.items() for name in names
    ]


def pairs_of_sets():
    small = small_sets(-2, 3, 3)
    great = sets_of_many_forms() + scattered_sets()
    return list(itertools.product(small, small[::2])) + list(itertools.product(great, great[::4]))


class Interface(Case):
    def test_every_name_with_its_arguments(self):
        for module, names in INTERFACE.items():
            home = importlib.import_module(f"fewsumlots.{module}")
            for name, arguments in names.items():
                with self.subTest(module=module, name=name):
                    ask = getattr(home, name)
                    self.assertTrue(inspect.isfunction(ask))
                    self.assertEqual(ask.__module__, home.__name__)
                    self.assertEqual(list(inspect.signature(ask).parameters), arguments.split())

    def test_the_desk(self):
        self.assertEqual(list(inspect.signature(Desk).parameters), [])
        self.assertIn("say", vars(Desk))
        self.assertEqual(list(inspect.signature(Desk.say).parameters), ["self", "row"])

    def test_no_function_is_left_out_of_the_tests_below(self):
        self.assertEqual({row[0] for row in QUESTIONS}, set(all_functions()))
        handed = {ask for ask in all_functions() if {"some", "one"} & set(inspect.signature(ask).parameters)}
        self.assertEqual({row[0] for row in HANDED_SETS}, handed - {shown_set})
        for ask, *things in HANDED_SETS:
            arguments = list(inspect.signature(ask).parameters)
            at = [name for name, thing in zip(arguments, things) if thing == SET]
            # The second number of fewest_sums and the picks of led_pairs are no sets.
            named = [name for name in arguments if name in ("first", "one", "other", "some")]
            self.assertEqual(at, named[:3] if ask == led_pairs else named)


class NoSetAheadOfAllElse(Case):
    def assert_refused_at(self, ask, things, at, thing):
        filled_in = [(0, 1) if other == SET else other for other in things]
        # Behind a set that is none all else may be wrong, too; the size of a round goes ahead.
        wrong = [other if place < at and place == 0 and ask in IN_ROUNDS else None for place, other in enumerate(things)]
        sets_ahead = [place for place, other in enumerate(things) if other == SET and place < at]
        for place in sets_ahead:
            wrong[place] = (0, 1)
        for others in (filled_in, wrong):
            self.assert_refused(NoSet, ask, *others[:at], thing, *others[at + 1:])

    def test_every_function_on_every_place(self):
        outside = [SIXTY_ONE, tuple(range(0, 9000, 3)), tuple(2 ** place for place in range(61))]
        for ask, *things in HANDED_SETS:
            for at in [at for at, thing in enumerate(things) if thing == SET]:
                for thing in things_that_are_no_sets() + outside:
                    self.assert_refused_at(ask, things, at, thing)
                if ask in IN_ROUNDS:
                    for thing in ((12,), (-1,), (0, 12), (0, FAR)):
                        self.assert_refused_at(ask, things, at, thing)

    def test_sets_of_sixty_are_no_reason(self):
        for ask, *things in HANDED_SETS:
            if ask not in IN_ROUNDS:
                with self.subTest(ask=ask):
                    try:
                        ask(*[SIXTY if thing == SET else thing for thing in things])
                    except ValueError as error:
                        # Sixty numbers are not plain, so only these may not be led on.
                        self.assertEqual(isinstance(error, NoSet), ask == led_on)


class TheAskersOwn(Case):
    def test_what_is_told_may_be_changed(self):
        for ask, *things in QUESTIONS:
            self.assert_own(ask, *things)

    def test_what_becomes_of_what_was_handed_in_changes_nothing(self):
        for ask, *things in QUESTIONS:
            with self.subTest(ask=ask):
                handed_in = eval(repr(things))
                told = ask(*handed_in)
                before = repr(told)
                self.assertEqual(repr(handed_in), repr(things))
                spoil(handed_in)
                self.assertEqual(repr(told), before)

    def test_what_is_told_holds_nothing_that_was_handed_in(self):
        for ask, *things in QUESTIONS:
            handed_in = eval(repr(things))
            told = ask(*handed_in)
            before = repr(handed_in)
            spoil(told)
            self.assertEqual(repr(handed_in), before)

    def test_questions_do_not_touch_one_another(self):
        first = [repr(ask(*things)) for ask, *things in QUESTIONS]
        kept = [ask(*things) for ask, *things in QUESTIONS]
        for ask, *things in reversed(QUESTIONS):
            spoil(ask(*things))
        self.assertEqual([repr(told) for told in kept], first)
        self.assertEqual([repr(ask(*things)) for ask, *things in QUESTIONS], first)


class TheWhole(Case):
    """What point 4 promises, and what points say `so` of, of one and the same sets."""

    def test_two_sets(self):
        for one, other in pairs_of_sets():
            with self.subTest(one=one, other=other):
                told = sums(one, other)
                counts = ways(one, other)
                self.assertEqual(tuple(sorted(counts)), told)
                self.assertEqual(sum(counts.values()), len(one) * len(other))
                self.assertEqual(fourfold(one, other), sum(many * many for many in counts.values()))
                # Point 81.
                self.assertLessEqual((len(one) * len(other)) ** 2, fourfold(one, other) * len(told))
                if one and other:
                    self.assert_chain_and_more(one, other, told)

    def assert_chain_and_more(self, one, other, told):
        fewest = len(one) + len(other) - 1
        self.assertGreaterEqual(len(told), fewest)
        self.assert_answer(True, is_chain, one, other, chain(one, other))
        why = just(one, other)
        self.assertEqual(len(told) > fewest, why[0] == "more")
        if why[0] == "more":
            self.assert_answer(True, shows_more, one, other, why[1:])
        if len(one) <= 10:
            self.assertGreaterEqual(len(cover(one, other)), len(spread(one, other)))
        self.assertLessEqual(len(cover_by_differences(one, other)[0]) * len(other), len(told))

    def test_one_set(self):
        for some in small_sets(-3, 6, 6) + sets_of_many_forms() + scattered_sets():
            m = len(some)
            many = len(sums(some, some))
            with self.subTest(some=some):
                # Points 34, 54, 70, 71 and 74.
                self.assertLessEqual(many, m * (m + 1) // 2)
                self.assertLessEqual(len(differences(some, some)), m * (m - 1) + 1)
                self.assertEqual(is_plain(some), many == m * (m + 1) // 2)
                if m and many <= 3 * m - 4:
                    self.assertLessEqual(row_around(some)[2], many - m + 1)
                    self.assertEqual(near(some, many - m + 1)[0], "row")
                if m and m <= 24:
                    f = freedom(some)
                    self.assertGreaterEqual(many, f * m - f * (f - 1) // 2)
                    self.assertEqual(is_plain(some), f == m)
                    self.assertTrue(ends_of_sums(m)[0] <= many <= ends_of_sums(m)[1])

    def test_in_a_row_or_shown_not_to_be(self):
        for some in sets_of_many_forms() + scattered_sets():
            for most in (1, 2, 7, 60, FAR) if some else ():
                kind, told = near(some, most)
                with self.subTest(some=some, most=most):
                    if kind == "row":
                        self.assertLessEqual(told[2], most)
                        self.assertTrue(all((number - told[0]) % told[1] == 0 for number in some))
                    else:
                        self.assert_answer(True, shows_far, some, most, told)
                        self.assertGreater(row_around(some)[2], most)

    def test_rounds(self):
        # Point 64: numbers that share no divisor above 1 with the size keep how many sums there are.
        for m, one, other in ((12, (0, 1, 4), (0, 6)), (39, (0, 13, 14), (5, 6, 20)), (40, (0, 8, 9, 17), (3, 39))):
            many = len(round_sums(m, one, other))
            self.assertEqual(kept_sums(m, one, other)[0], many)
            self.assertGreaterEqual(many, fewest_sums(m, len(one), len(other))[0])
            for by in (-1, 7, 11, 41 if m == 40 else 5):
                both = [tuple(sorted(number * by % m for number in some)) for some in (one, other)]
                self.assertEqual(len(round_sums(m, *both)), many)
                self.assertEqual(len(round_sums(m, round_turned(m, one, by), other)), many)

    def test_what_was_told_is_handed_in_again(self):
        told = sums((-FAR, 0, FAR), (-FAR, 1, FAR))
        self.assertEqual(read_set(shown_set(told)), told)
        self.assertEqual(row_set(read_row(shown_row(row_around((0, FAR, 2 * FAR))))), (0, FAR, 2 * FAR))
        led = led_on((-FAR, FAR), 5)
        self.assertIs(is_plain(led), True)
        self.assertEqual(freedom(led), 7)
        some = set_with_sums(24, 150)
        self.assertIs(is_free_paper(some, free_paper(some)), True)
        self.assertIs(keeps_sums((0, 1, 2), likeness((0, 1, 2), (5, 7, 9))), True)

    def test_the_greatest_in_short_time(self):
        start = time.process_time()
        doubled = tuple(2 ** place - FAR for place in range(60))
        for some in (SIXTY, doubled):
            for ask, *things in HANDED_SETS:
                if ask not in IN_ROUNDS + (fold_sums,):
                    with self.subTest(ask=ask):
                        try:
                            ask(*[some if thing == SET else thing for thing in things])
                        except ValueError:
                            pass
        self.assertLess(time.process_time() - start, 20)


if __name__ == "__main__":
    unittest.main()
