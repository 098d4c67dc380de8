"""Point 91: fewsumlots.desk."""

import itertools
import time
import unittest

from fewsumlots.chains import just
from fewsumlots.covers import cover, spread
from fewsumlots.desk import Desk
from fewsumlots.errors import NoDeed, NoNumber, NoSet, NoText, SetError, TooMany
from fewsumlots.rows import near, row_around, shows_far
from fewsumlots.sets import form, grown, moved
from fewsumlots.sums import differences, fourfold, sums, ways
from fewsumlots.texts import shown_row, shown_set
from tests.helper import FAR, SIXTY, Case, small_sets, things_of_other_kinds

NAMES = "abcdef"
NINES = 10 ** 60 - 1

# Each row of point 91 but `set`: its words behind the first one, as the point writes them.
FORMS = {
    "move": "AN", "grow": "AN", "sums": "ABC", "differences": "ABC", "show": "A", "many": "AB", "ways": "ABN",
    "fourfold": "AB", "form": "A", "row": "A", "near": "AN", "just": "AB", "cover": "AB", "spread": "AB",
}
WORDS = {"A": "a", "B": "b", "C": "c", "N": "5"}

NO_NUMBERS = (
    "", "-", "+1", "-0", "00", "01", "-01", "1" * 61, "1.0", "1_0", "x", "a", "\u0661", "\uff11", "1\n", "\t1", "--1",
    "1,2", "0x1",
)
NO_NAMES = ("", "g", "z", "A", "F", "ab", "aa", "abcdef", "1", "-", "\u0430", "a\n", "\ta", "a,", "a:b", "_")


def desk_with(**kept):
    desk = Desk()
    for name, some in kept.items():
        desk.say(f"set {name} {shown_set(some)}")
    return desk


def shown_all(desk):
    """What the desk keeps, as it shows it."""
    told = {}
    for name in NAMES:
        try:
            told[name] = desk.say(f"show {name}")
        except NoNumber:
            told[name] = None
    return told


def good_row(deed):
    return " ".join([deed] + [WORDS[kind] for kind in FORMS[deed]])


def sets_at_hand():
    return [
        (), (0,), (-7,), (0, 1), (-5, 4), (0, 1, 2), (0, 2, 4, 10), (0, 6, 10, 15), (1, 2, 4, 8), (-FAR, 0, FAR),
        (FAR, 2 * FAR, 4 * FAR), (-3, -2, 5, 6, 7), tuple(range(-4, 6)), tuple(range(0, 33, 3)), SIXTY,
    ]


class DeskCase(Case):
    def assert_desk_refuses(self, refusal, desk, row):
        """The row is refused, and the desk keeps what it kept."""
        before = shown_all(desk)
        self.assert_refused(refusal, desk.say, row)
        self.assertEqual(shown_all(desk), before)

    def assert_said(self, desk, row, answer):
        with self.subTest(row=row):
            told = desk.say(row)
            self.assertIs(type(told), str)
            self.assertEqual(told, answer)


class Keeping(DeskCase):
    def test_at_first_none(self):
        self.assertEqual(shown_all(Desk()), {name: None for name in NAMES})

    def test_set_and_show(self):
        desk = Desk()
        for name, some in itertools.product(NAMES, sets_at_hand()):
            self.assert_said(desk, f"set {name} {shown_set(some)}", str(len(some)))
            self.assert_said(desk, f"show {name}", shown_set(some))
        self.assertEqual(shown_all(desk), {name: shown_set(SIXTY) for name in NAMES})

    def test_in_the_stead_of_one(self):
        desk = desk_with(a=(1, 2), b=(5,))
        self.assert_said(desk, "set a -", "0")
        self.assert_said(desk, "show a", "-")
        self.assert_said(desk, "show b", "5")
        self.assert_said(desk, "set a -3 8 9", "3")
        self.assert_said(desk, "show a", "-3 8 9")

    def test_move_and_grow(self):
        for some in sets_at_hand():
            for by in (0, 1, -1, 3, -10, FAR, -FAR, NINES, -NINES):
                desk = desk_with(a=some, b=(1,))
                self.assert_said(desk, f"move a {by}", str(len(some)))
                self.assert_said(desk, "show a", shown_set(moved(some, by)))
                self.assert_said(desk, "show b", "1")
                desk = desk_with(f=some, b=(1,))
                self.assert_said(desk, f"grow f {by}", str(len(grown(some, by))))
                self.assert_said(desk, "show f", shown_set(grown(some, by)))
                self.assert_said(desk, "show b", "1")

    def test_grown_by_nought(self):
        desk = desk_with(a=(5, 7), b=())
        self.assert_said(desk, "grow a 0", "1")
        self.assert_said(desk, "show a", "0")
        self.assert_said(desk, "grow b 0", "0")
        self.assert_said(desk, "show b", "-")

    def test_sums_and_differences(self):
        for one, other in itertools.product(small_sets(-1, 2, 3) + [(-FAR, 0, FAR), (0, 10, 100)], repeat=2):
            desk = desk_with(a=one, b=other)
            for deed, told in (("sums", sums(one, other)), ("differences", differences(one, other))):
                self.assert_said(desk, f"{deed} a b c", str(len(told)))
                self.assert_said(desk, "show c", shown_set(told))
            self.assert_said(desk, "show a", shown_set(one))
            self.assert_said(desk, "show b", shown_set(other))

    def test_kept_by_a_name_of_the_row_itself(self):
        for deed, ask in (("sums", sums), ("differences", differences)):
            for name in "ab":
                desk = desk_with(a=(0, 1, 5), b=(2, 10))
                self.assert_said(desk, f"{deed} a b {name}", "6")
                self.assert_said(desk, f"show {name}", shown_set(ask((0, 1, 5), (2, 10))))
            desk = desk_with(a=(0, 1, 5))
            self.assert_said(desk, f"{deed} a a a", str(len(ask((0, 1, 5), (0, 1, 5)))))
            self.assert_said(desk, "show a", shown_set(ask((0, 1, 5), (0, 1, 5))))

    def test_the_order_of_differences(self):
        desk = desk_with(a=(10,), b=(1, 2))
        desk.say("differences a b c")
        desk.say("differences b a d")
        self.assert_said(desk, "show c", "8 9")
        self.assert_said(desk, "show d", "-9 -8")

    def test_sixty_are_kept_and_more_are_not(self):
        desk = desk_with(a=tuple(range(0, 300, 10)), b=(0, 1), c=(0, 1, 2), d=(7,))
        self.assert_said(desk, "sums a b e", "60")
        self.assert_said(desk, "differences a b e", "60")
        for row in ("sums a c d", "sums c a f", "differences a c d", "differences c a a", "sums e e e", "sums a e a"):
            self.assert_desk_refuses(NoSet, desk, row)
        self.assert_said(desk, "sums a a f", "59")
        self.assert_said(desk, "show d", "7")

    def test_two_desks_do_not_touch_one_another(self):
        one, other = Desk(), Desk()
        one.say("set a 1 2")
        self.assertEqual(shown_all(other), {name: None for name in NAMES})
        self.assert_desk_refuses(NoNumber, other, "show a")
        other.say("set a 7")
        other.say("set b 8")
        other.say("move a 1")
        self.assert_said(one, "show a", "1 2")
        self.assert_desk_refuses(NoNumber, one, "show b")
        self.assert_said(other, "show a", "8")

    def test_more_figures_than_are_read(self):
        desk = desk_with(a=(-1, 0, 1))
        for _ in range(120):
            desk.say(f"grow a {NINES}")
        told = desk.say("show a").split(" ")
        self.assertEqual([len(told[0]), told[1], len(told[2])], [7201, "0", 7200])
        self.assertEqual(told[0], "-" + told[2])
        self.assert_said(desk, "form a", "0 1 2")
        self.assert_said(desk, "just a a", "rows " + told[2])


class Answers(DeskCase):
    def test_some_rows(self):
        desk = desk_with(a=(0, 4, 10), b=(0, 1), c=(5,), d=())
        self.assert_said(desk, "many a b", "6")
        self.assert_said(desk, "many a d", "0")
        self.assert_said(desk, "ways a a 4", "2")
        self.assert_said(desk, "ways a a 5", "0")
        self.assert_said(desk, "ways a a -4", "0")
        self.assert_said(desk, "fourfold b b", "6")
        self.assert_said(desk, "fourfold b d", "0")
        self.assert_said(desk, "form a", "0 2 5")
        self.assert_said(desk, "form c", "0")
        self.assert_said(desk, "form d", "-")
        self.assert_said(desk, "row a", "0:2:6")
        self.assert_said(desk, "row c", "5:1:1")
        self.assert_said(desk, "near a 6", "yes")
        self.assert_said(desk, "near c 1", "yes")
        self.assert_said(desk, "just b b", "rows 1")
        self.assert_said(desk, "just a b", "more")
        self.assert_said(desk, "just a c", "one")
        self.assert_said(desk, "cover a b", "3")
        self.assert_said(desk, "spread a b", "3")
        self.assert_said(desk, "cover d b", "0")
        self.assert_said(desk, "spread d b", "0")

    def assert_two(self, one, other):
        desk = desk_with(a=one, e=other)
        before = shown_all(desk)
        self.assert_said(desk, "many a e", str(len(sums(one, other))))
        self.assert_said(desk, "fourfold a e", str(fourfold(one, other)))
        counts = ways(one, other)
        for number in list(counts)[:5] + [FAR + 1, -1]:
            self.assert_said(desk, f"ways a e {number}", str(counts.get(number, 0)))
        if one and other:
            told = just(one, other)
            self.assert_said(desk, "just a e", f"rows {told[1]}" if told[0] == "rows" else told[0])
        else:
            self.assert_desk_refuses(NoNumber, desk, "just a e")
        for deed, ask in (("cover", cover), ("spread", spread)):
            if not other:
                self.assert_desk_refuses(NoNumber, desk, f"{deed} a e")
            elif len(one) > 10:
                self.assert_desk_refuses(TooMany, desk, f"{deed} a e")
            else:
                self.assert_said(desk, f"{deed} a e", str(len(ask(one, other))))
        self.assertEqual(shown_all(desk), before)

    def test_two_sets(self):
        for one, other in itertools.product(sets_at_hand(), repeat=2):
            self.assert_two(one, other)

    def test_one_set(self):
        for some in sets_at_hand():
            desk = desk_with(c=some)
            self.assert_said(desk, "form c", shown_set(form(some)))
            if some:
                self.assert_said(desk, "row c", shown_row(row_around(some)))
            else:
                self.assert_desk_refuses(NoNumber, desk, "row c")
            self.assertEqual(shown_all(desk)["c"], shown_set(some))

    def test_near(self):
        for some in sets_at_hand()[1:]:
            desk = desk_with(b=some)
            for most in (1, 2, 3, 6, 11, 59, 60, FAR, NINES):
                told = desk.say(f"near b {most}")
                with self.subTest(some=some, most=most):
                    if near(some, most)[0] == "row":
                        self.assertEqual(told, "yes")
                    else:
                        no, weights = told.split(" ")
                        self.assertEqual(no, "no")
                        numbers = [int(word) for word in weights.split(",")]
                        self.assertEqual(weights, ",".join(str(number) for number in numbers))
                        self.assertIs(shows_far(some, most, numbers), True)

    def test_near_of_far_numbers(self):
        some = tuple(sorted(NINES - place * (NINES // 61 - place * place) for place in range(60)))
        desk = desk_with(a=some)
        no, weights = desk.say("near a 1000").split(" ")
        self.assertEqual(no, "no")
        self.assertIs(shows_far(some, 1000, [int(word) for word in weights.split(",")]), True)

    def test_near_what_is_no_most(self):
        desk = desk_with(a=(0, 1), b=())
        for row in ("near a 0", "near a -1", f"near a -{NINES}", "near b 1", "near b 0"):
            self.assert_desk_refuses(NoNumber, desk, row)

    def test_the_same_row_is_answered_alike(self):
        desk = desk_with(a=(0, 4, 10), b=(0, 1))
        for row in ("near a 2", "just a b", "cover a b", "show a", "ways a b 4", "form a"):
            self.assertEqual(desk.say(row), desk.say(row))

    def test_one_name_twice(self):
        desk = desk_with(a=(0, 1, 3))
        self.assert_said(desk, "many a a", "6")
        self.assert_said(desk, "spread a a", "1")
        self.assert_said(desk, "cover a a", "1")


class Refused(DeskCase):
    def full_desk(self):
        return desk_with(a=(0, 4, 10), b=(0, 1), c=(5,), d=(), e=(1, 2, 3), f=(-5, 5))

    def test_each_row_is_a_good_one(self):
        for deed in FORMS:
            self.full_desk().say(good_row(deed))

    def test_things_that_are_no_text(self):
        for desk in (Desk(), self.full_desk()):
            for thing in things_of_other_kinds() + [b"show a", ["show", "a"], ("show", "a"), bytearray(b"show a")]:
                self.assert_desk_refuses(NoDeed, desk, thing)

    def test_other_words(self):
        desk = self.full_desk()
        for row in (
            "", " ", "  ", "a", "5", "-", "nothing", "SHOW a", "Show a", "show\ta", "show\na", "show\u00a0a", "showa",
            "sum a b c", "difference a b c", "keep a 1", "sets a 1", "SET a 1", "is_set a", "forms a", "rows a", "set",
            "show", "many", "__init__ a", "say show a", "kept", "pairs a b 5", "chain a b", "S", "SN",
        ):
            self.assert_desk_refuses(NoDeed, desk, row)

    def test_too_few_or_too_many_words(self):
        for deed in FORMS:
            words = good_row(deed).split(" ")
            for many in range(1, len(words)):
                self.assert_desk_refuses(NoDeed, self.full_desk(), " ".join(words[:many]))
            for more in ("a", "5", "x", ""):
                self.assert_desk_refuses(NoDeed, self.full_desk(), " ".join(words + [more]))

    def test_blanks_ahead_behind_and_two(self):
        for deed in FORMS:
            row = good_row(deed)
            bent = [f" {row}", f"{row} ", f"{row}\n", f"\n{row}", f"\t{row}", f"{row}\t", f"{row}\r\n"]
            places = [at for at, sign in enumerate(row) if sign == " "]
            for blank in ("  ", "\t", "\n", " \t", "\u00a0", "", ",", "\u2003"):
                bent += [row[:at] + blank + row[at + 1:] for at in places]
            for thing in bent:
                self.assert_desk_refuses(NoDeed, self.full_desk(), thing)

    def test_words_not_written_as_told(self):
        for deed, kinds in FORMS.items():
            words = good_row(deed).split(" ")
            for at, kind in enumerate(kinds, start=1):
                for wrong in NO_NUMBERS if kind == "N" else NO_NAMES:
                    row = " ".join(words[:at] + [wrong] + words[at + 1:])
                    self.assert_desk_refuses(NoDeed, self.full_desk(), row)

    def test_a_name_where_a_number_is_asked_and_the_other_way_round(self):
        for row in ("move 5 a", "grow a b", "ways a b c", "near 5 a", "show 5", "sums a b 5", "sums 5 a b"):
            self.assert_desk_refuses(NoDeed, self.full_desk(), row)

    def test_set_that_is_no_row(self):
        for row in (
            "set", "set ", "set a", "set g 1", "set A 1", "set ab 1", "set  a 1", " set a 1", "set 1", "set 1 2", "set - 1",
            "set\ta 1", "set a\t1", "set a\n1", "set  ", "set  1", "set g -", "set g x", "set \u0430 1", "set a\u00a01",
        ):
            self.assert_desk_refuses(NoDeed, self.full_desk(), row)
            self.assert_desk_refuses(NoDeed, Desk(), row)

    def test_set_with_what_is_no_set(self):
        texts = (
            "", " ", " 1", "1 ", "1  2", "2 1", "1 1", "x", "a", "b", "+1", "-0", "01", "1" * 61, "- -", "1 -", "0:1:2", "1,2",
            "1\t2", "1\n", "-\n", "(0, 1)", "()", "\u0661", " -", "- ", " ".join(str(number) for number in range(61)),
        )
        for text in texts:
            self.assert_desk_refuses(NoText, self.full_desk(), f"set a {text}")
            self.assert_desk_refuses(NoText, Desk(), f"set f {text}")

    def test_names_that_keep_no_set(self):
        for deed, kinds in FORMS.items():
            asked = [kind for kind in kinds if kind in "AB"]
            for many in range(len(asked)):
                for keeping in itertools.combinations(asked, many):
                    desk = desk_with(**{WORDS[kind]: (0, 1) for kind in keeping})
                    self.assert_desk_refuses(NoNumber, desk, good_row(deed))
            self.full_desk().say(good_row(deed))

    def test_the_name_to_keep_by_may_keep_none(self):
        for deed in ("sums", "differences"):
            desk = desk_with(a=(0, 1), b=(0, 1))
            self.assert_said(desk, f"{deed} a b c", "3")
            desk = desk_with(a=(0, 1), c=(7,))
            self.assert_desk_refuses(NoNumber, desk, f"{deed} a b c")
            self.assert_said(desk, "show c", "7")

    def test_no_deed_goes_ahead_of_no_number(self):
        for deed, kinds in FORMS.items():
            words = good_row(deed).split(" ")
            for at, kind in enumerate(kinds, start=1):
                wrong = "01" if kind == "N" else "g"
                self.assert_desk_refuses(NoDeed, Desk(), " ".join(words[:at] + [wrong] + words[at + 1:]))
            self.assert_desk_refuses(NoDeed, Desk(), " ".join(words + ["a"]))
            self.assert_desk_refuses(NoDeed, Desk(), " ".join(words[:-1]))

    def test_no_deed_goes_ahead_of_what_the_stages_refuse(self):
        desk = desk_with(a=SIXTY, b=tuple(range(0, 6000, 100)), d=())
        for row in ("sums a b g", "differences a b ab", "cover a g", "near d 00", "row d ", "just d d d", "spread b d\n"):
            self.assert_desk_refuses(NoDeed, desk, row)
        self.assert_desk_refuses(NoDeed, desk, "set g 2 1")

    def test_no_number_goes_ahead_of_what_the_stages_refuse(self):
        desk = desk_with(a=SIXTY, d=())
        for row in ("cover a b", "spread a b", "cover a d", "spread a d", "just d b", "near b 0", "near d 5"):
            self.assert_desk_refuses(NoNumber, desk, row)
        self.assert_desk_refuses(TooMany, desk, "cover a a")
        self.assert_desk_refuses(TooMany, desk, "spread a a")

    def test_after_refusals_the_desk_goes_on(self):
        desk = Desk()
        for row in ("set a 2 1", "show a", "what", None, "move a 1"):
            with self.assertRaises(SetError):
                desk.say(row)
        self.assert_said(desk, "set a 1 2", "2")
        self.assert_said(desk, "move a 1", "2")
        self.assert_said(desk, "show a", "2 3")


class InShortTime(DeskCase):
    def test_the_greatest_sets(self):
        start = time.process_time()
        far = tuple(FAR - 2 ** place for place in reversed(range(60)))
        desk = desk_with(a=SIXTY, b=far, c=far[:10], d=SIXTY[:10])
        for one, other in itertools.product("abcd", repeat=2):
            for deed in ("many", "fourfold", "just"):
                desk.say(f"{deed} {one} {other}")
            if one in "cd":
                desk.say(f"cover {one} {other}")
                desk.say(f"spread {one} {other}")
            desk.say(f"near {one} 2")
        self.assertLess(time.process_time() - start, 10)


if __name__ == "__main__":
    unittest.main()
