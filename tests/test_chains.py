"""Points 32 and 33: fewsumlots.chains."""

import itertools
import time
import unittest

from fewsumlots.chains import chain, is_chain, just, shows_more
from fewsumlots.errors import NoNumber
from fewsumlots.sets import grown, moved
from fewsumlots.sums import sums
from tests.helper import (
    FAR, SIXTY, Case, bent, scattered_sets, sets_of_many_forms, small_sets, things_of_other_kinds,
)


def all_chains(one, other):
    """Each way up from both least numbers to both greatest."""
    if len(one) == 1 and len(other) == 1:
        return [[(one[0], other[0])]]
    told = []
    if len(one) > 1:
        told += all_chains(one[1:], other)
    if len(other) > 1:
        told += all_chains(one, other[1:])
    return [[(one[0], other[0])] + rest for rest in told]


def all_more(one, other):
    """Each chain with each pair whose sum it has not."""
    return [
        (links, pair)
        for links in all_chains(one, other)
        for pair in itertools.product(one, other)
        if sum(pair) not in [a + b for a, b in links]
    ]


def shown(things):
    # Shown as text, 1, True and 1.0 are unlike, and so are lists and tuples.
    return {repr(thing) for thing in things}


def pairs_of_sets():
    small = [some for some in small_sets(-2, 3, 4) if some]
    others = [some for some in sets_of_many_forms() + scattered_sets() if some]
    return list(itertools.product(small, small[:40])) + list(itertools.product(others, others[:12]))


def sets_to_bend():
    return [
        ((0,), (5,)), ((0, 1), (5,)), ((5,), (0, 1, 3)), ((0, 1), (0, 1)), ((0, 1), (0, 2)), ((0, 1, 3), (0, 1)),
        ((-1, 0, 1), (0, 1, 2)), ((-FAR, 0, FAR), (1, 2)), ((0, 1, 2), (0, 1, 5)), ((-2, -1, 1), (2, 4, 5, 9)),
    ]


class Chain(Case):
    def test_by_the_words(self):
        for one, other in pairs_of_sets():
            with self.subTest(one=one, other=other):
                told = chain(one, other)
                self.assertIs(type(told), list)
                self.assertEqual(len(told), len(one) + len(other) - 1)
                self.assertEqual(told[0], (one[0], other[0]))
                self.assertEqual(told[-1], (one[-1], other[-1]))
                for pair in told:
                    self.assertEqual([type(pair), type(pair[0]), type(pair[1])], [tuple, int, int])
                for (a, b), (c, d) in itertools.pairwise(told):
                    moves = [one.index(c) - one.index(a), other.index(d) - other.index(b)]
                    self.assertEqual(sorted(moves), [0, 1])
                rising = [a + b for a, b in told]
                self.assertEqual(rising, sorted(set(rising)))
                self.assertLessEqual(set(rising), set(sums(one, other)))
                self.assert_answer(True, is_chain, one, other, told)

    def test_two_single_numbers(self):
        self.assertEqual(chain((FAR,), (-7,)), [(FAR, -7)])

    def test_what_is_told_is_the_askers_own(self):
        self.assert_own(chain, (0, 1, 3), (0, 5))
        self.assert_own(chain, (0,), (5,))

    def test_sixty_in_short_time(self):
        start = time.process_time()
        for one, other in ((SIXTY, SIXTY), (SIXTY, moved(grown(SIXTY, FAR), -FAR))):
            told = chain(one, other)
            self.assertEqual(len(told), 119)
            self.assertIs(is_chain(one, other, told), True)
        self.assertLess(time.process_time() - start, 5)


class IsChain(Case):
    def test_every_chain_is_one(self):
        for one, other in sets_to_bend() + [((0, 1, 2, 3), (0, 10, 20, 30)), ((1, 2, 4, 8, 16), (3,))]:
            told = all_chains(one, other)
            for links in told:
                self.assert_answer(True, is_chain, one, other, links)

    def test_good_ones_bent_at_each_place(self):
        for one, other in sets_to_bend():
            good = shown(all_chains(one, other))
            for links in all_chains(one, other)[:6]:
                for thing in bent(links):
                    self.assert_answer(repr(thing) in good, is_chain, one, other, thing)

    def test_all_lists_of_few_pairs(self):
        one, other = (0, 1, 2), (0, 3)
        good = shown(all_chains(one, other))
        self.assertEqual(len(good), 3)
        for links in itertools.product(itertools.product(one, other), repeat=4):
            self.assert_answer(repr(list(links)) in good, is_chain, one, other, list(links))

    def test_a_step_left_out_or_both_at_once(self):
        self.assert_answer(False, is_chain, (0, 1, 2), (0, 1), [(0, 0), (2, 0), (2, 1)])
        self.assert_answer(False, is_chain, (0, 1, 2), (0, 1), [(0, 0), (0, 0), (2, 0), (2, 1)])
        self.assert_answer(False, is_chain, (0, 1), (0, 1), [(0, 0), (1, 1), (1, 1)])
        self.assert_answer(False, is_chain, (0, 1), (0, 1), [(0, 0), (1, 1)])
        self.assert_answer(False, is_chain, (0, 1), (0, 1), [(1, 1), (1, 0), (0, 0)])
        self.assert_answer(False, is_chain, (0, 1), (0, 1), [(0, 0), (1, 0), (0, 1)])
        self.assert_answer(False, is_chain, (0, 1), (0, 1), [(0, 0), (1, 0), (2, 0)])
        self.assert_answer(False, is_chain, (0, 1), (0, 1), [])

    def test_the_sets_exchanged(self):
        self.assert_answer(True, is_chain, (0, 1), (5, 6), [(0, 5), (1, 5), (1, 6)])
        self.assert_answer(False, is_chain, (5, 6), (0, 1), [(0, 5), (1, 5), (1, 6)])

    def test_things_of_other_kinds(self):
        for thing in things_of_other_kinds() + [[(0, 0)] * 119, [None] * 119, [(None, None)] * 3]:
            for one, other in ((SIXTY, SIXTY), ((0,), (0, 1)), ((0, 1), (0, 2))):
                self.assert_answer(False, is_chain, one, other, thing)


def is_even(some, step):
    return all(high - low == step for low, high in itertools.pairwise(some))


class Just(Case):
    def test_some_sets(self):
        self.assertEqual(just((5,), (7,)), ("one",))
        self.assertEqual(just((5,), (0, 1, 3)), ("one",))
        self.assertEqual(just((0, 1, 3), (-FAR,)), ("one",))
        self.assertEqual(just((0, 1), (5, 6)), ("rows", 1))
        self.assertEqual(just((0, 3, 6), (-1, 2)), ("rows", 3))
        self.assertEqual(just((-FAR, 0, FAR), (1, FAR + 1)), ("rows", FAR))
        self.assertEqual(just(SIXTY, SIXTY), ("rows", 1))
        self.assertEqual(just((0, 1), (0, 2))[0], "more")
        self.assertEqual(just((0, 1, 2), (0, 2, 4))[0], "more")
        self.assertEqual(just((0, 1, 3), (0, 1, 3))[0], "more")
        self.assertEqual(just((0, 2, 4), (0, 2, 6))[0], "more")
        self.assertEqual(just((0, 2, 6), (0, 2, 4))[0], "more")

    def test_by_the_words_and_as_many_sums_as_it_shows(self):
        for one, other in pairs_of_sets():
            with self.subTest(one=one, other=other):
                told = just(one, other)
                self.assertIs(type(told), tuple)
                fewest = len(one) + len(other) - 1
                if len(one) == 1 or len(other) == 1:
                    self.assertEqual(told, ("one",))
                    self.assertEqual(len(sums(one, other)), fewest)
                elif is_even(one, one[1] - one[0]) and is_even(other, one[1] - one[0]):
                    self.assertEqual(told, ("rows", one[1] - one[0]))
                    self.assertEqual(len(sums(one, other)), fewest)
                else:
                    self.assert_shown_more(one, other, told)
                    self.assertGreater(len(sums(one, other)), fewest)

    def assert_shown_more(self, one, other, told):
        word, links, pair = told
        self.assertEqual(word, "more")
        self.assert_answer(True, is_chain, one, other, links)
        self.assertEqual([type(pair), len(pair)], [tuple, 2])
        self.assertIn(pair[0], one)
        self.assertIn(pair[1], other)
        self.assertNotIn(sum(pair), [a + b for a, b in links])
        self.assert_answer(True, shows_more, one, other, (links, pair))

    def test_what_is_told_is_the_askers_own(self):
        self.assert_own(just, (0, 1, 3), (0, 5))
        self.assert_own(just, (0, 1), (0, 1))

    def test_sixty_in_short_time(self):
        start = time.process_time()
        doubled = tuple(2 ** place - FAR for place in range(60))
        for one, other in ((SIXTY, grown(SIXTY, 2)), (doubled, doubled), (doubled, SIXTY), (SIXTY[1:] + (99,), SIXTY)):
            self.assert_shown_more(one, other, just(one, other))
        self.assertLess(time.process_time() - start, 5)


class ShowsMore(Case):
    def test_all_that_show_more_and_all_that_do_not(self):
        for one, other in sets_to_bend():
            good = shown(all_more(one, other))
            for links in all_chains(one, other):
                for pair in itertools.product(one, other):
                    thing = (links, pair)
                    self.assert_answer(repr(thing) in good, shows_more, one, other, thing)

    def test_never_where_the_sums_are_as_few_as_can_be(self):
        for one, other in (((0,), (1, 5)), ((0, 1, 3), (7,)), ((0, 2, 4), (1, 3)), ((-FAR, FAR), (0, 2 * FAR))):
            self.assertEqual(all_more(one, other), [])
            for links in all_chains(one, other):
                for a, b in itertools.product(one + (99,), other + (99,)):
                    self.assert_answer(False, shows_more, one, other, (links, (a, b)))

    def test_good_ones_bent_at_each_place(self):
        for one, other in sets_to_bend():
            good = shown(all_more(one, other))
            for more in all_more(one, other)[:5]:
                for thing in bent(more):
                    self.assert_answer(repr(thing) in good, shows_more, one, other, thing)

    def test_a_pair_that_is_none_of_the_sets(self):
        links = [(0, 0), (1, 0), (1, 2)]
        self.assert_answer(True, shows_more, (0, 1), (0, 2), (links, (0, 2)))
        for pair in ((2, 0), (0, 1), (5, 5), (2, 2), (0, 3), (-1, 2), (0, True), (False, 2), (0.0, 2), [0, 2]):
            self.assert_answer(False, shows_more, (0, 1), (0, 2), (links, pair))

    def test_what_just_tells_is_no_such_tuple_itself(self):
        told = just((0, 1), (0, 2))
        self.assert_answer(False, shows_more, (0, 1), (0, 2), told)
        self.assert_answer(False, shows_more, (0, 1), (0, 2), list(told[1:]))
        self.assert_answer(True, shows_more, (0, 1), (0, 2), told[1:])

    def test_things_of_other_kinds(self):
        links = chain((0, 1), (0, 2))
        for thing in things_of_other_kinds():
            for one, other in ((SIXTY, SIXTY), ((0,), (0, 1)), ((0, 1), (0, 2))):
                self.assert_answer(False, shows_more, one, other, thing)
                self.assert_answer(False, shows_more, one, other, (thing, (0, 2)))
                self.assert_answer(False, shows_more, one, other, (links, thing))


ASKS = (
    chain,
    just,
    lambda one, other: is_chain(one, other, [(0, 0)]),
    lambda one, other: is_chain(one, other, None),
    lambda one, other: shows_more(one, other, ([(0, 0)], (0, 0))),
    lambda one, other: shows_more(one, other, 5),
)


class HandedIn(Case):
    def test_no_set_goes_ahead_of_all_else(self):
        for ask in ASKS:
            self.assert_needs_sets(ask)

    def test_sets_without_numbers(self):
        for ask in ASKS:
            for some in ((0,), (0, 1), (0, 1, 5), SIXTY):
                self.assert_refused(NoNumber, ask, (), some)
                self.assert_refused(NoNumber, ask, some, ())
            self.assert_refused(NoNumber, ask, (), ())


if __name__ == "__main__":
    unittest.main()
