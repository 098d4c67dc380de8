"""Point 90: fewsumlots.texts."""

import time
import unittest
from unittest import mock

from fewsumlots.errors import NoText
from fewsumlots.sets import grown, moved
from fewsumlots.sums import sums
from fewsumlots.texts import read_row, read_set, shown_row, shown_set
from tests.helper import (
    FAR, SIXTY, SIXTY_ONE, Case, scattered_sets, sets_of_many_forms, small_sets, things_of_other_kinds,
)

NINES = 10 ** 60 - 1
OTHER_BLANKS = ("\t", "\n", "\r", "\f", "\v", "\u00a0", "\u2003", "\u3000", "\x1c", "\u200b", "  ", ",", ", ", "_")
# Figures that Python itself would take for such.
OTHER_FIGURES = ("\u0661", "\u0967", "\uff11", "\u00b2", "\u2460", "\U0001d7d9", "\u4e00")
NO_NUMBERS = (
    "", "+1", "+0", "-0", "00", "01", "-01", "007", "--1", "1-", "-", "- 1", "1_0", "1.0", "1e3", "0x1", "a", "one",
    "1,000", "1" * 61, "-" + "1" * 61, "1" + "0" * 60, "0" * 61, "\u22121", "1\u0661", "True", "None", "()", "1\n",
    "\n1", "\t1", "1\t", "1\x00",
) + OTHER_FIGURES


def things_that_are_no_texts():
    told = [thing for thing in things_of_other_kinds() if type(thing) is not str]
    # The last one says of itself that it equals each thing.
    return told + [0, 5, (0, 1), [0, 1], b"-", b"0 1", b"0:1:1", bytearray(b"1"), ["0", "1"], ("-",), mock.ANY]


class ShownSet(Case):
    def test_some_sets(self):
        self.assertEqual(shown_set(()), "-")
        self.assertEqual(shown_set((0,)), "0")
        self.assertEqual(shown_set((-3, 0, 12)), "-3 0 12")
        self.assertEqual(shown_set((-NINES, NINES)), "-" + "9" * 60 + " " + "9" * 60)
        self.assertEqual(shown_set((10 ** 59,)), "1" + "0" * 59)

    def test_what_is_shown_is_read_back(self):
        chosen = small_sets(-3, 3, 4) + sets_of_many_forms() + scattered_sets()
        chosen += [SIXTY[:many] for many in range(61)] + [grown(SIXTY, -FAR), moved(SIXTY, -FAR), (-NINES, 0, NINES)]
        for some in chosen:
            with self.subTest(some=some):
                told = shown_set(some)
                self.assertIs(type(told), str)
                self.assertEqual(told, " ".join(str(number) for number in some) or "-")
                back = read_set(told)
                self.assert_set(back)
                self.assertEqual(back, some)

    def test_sums_of_far_numbers(self):
        some = sums((-FAR, 0, FAR), (-10 ** 30 + 1, 10 ** 30 - 1))
        self.assertEqual(read_set(shown_set(some)), some)

    def test_writing_refuses_nothing(self):
        self.assertEqual(shown_set(SIXTY_ONE), " ".join(str(number) for number in range(61)))
        self.assertEqual(shown_set((10 ** 60, 10 ** 121 + 5)), "1" + "0" * 60 + " 1" + "0" * 120 + "5")
        self.assertEqual(shown_set((-(10 ** 60),)), "-1" + "0" * 60)
        self.assertEqual(shown_row((0, 1, 61)), "0:1:61")
        self.assertEqual(shown_row((10 ** 60, 10 ** 60 + 7, 1)), f"1{'0' * 60}:1{'0' * 59}7:1")

    def test_more_figures_than_python_writes_at_once(self):
        self.assertEqual(shown_set((-(10 ** 9000), 10 ** 9000 + 3)), "-1" + "0" * 9000 + " 1" + "0" * 8999 + "3")

    def test_each_number_of_figures(self):
        for many in range(1, 200):
            low, high = 10 ** (many - 1), 10 ** many - 1
            self.assertEqual(shown_set((-high, -low, low, high)), f"{-high} {-low} {low} {high}" if many > 1 else "-9 -1 1 9")


class ReadSet(Case):
    def test_some_texts(self):
        self.assertEqual(read_set("-"), ())
        self.assertEqual(read_set("0"), (0,))
        self.assertEqual(read_set("-5"), (-5,))
        self.assertEqual(read_set("-12 0 7 10"), (-12, 0, 7, 10))
        self.assertEqual(read_set("9" * 60), (NINES,))
        self.assertEqual(read_set("-" + "9" * 60), (-NINES,))

    def test_blanks_too_many_or_others(self):
        for text in (" ", "  ", " 1", "1 ", "1  2", " 1 2", "1 2 ", " -", "- ", " - ", "1 2  3", "0 ", "\n", "1 2\n"):
            self.assert_refused(NoText, read_set, text)
        for blank in OTHER_BLANKS:
            for text in (f"1{blank}2", f"{blank}1", f"1{blank}", f"-{blank}", f"{blank}-", f"1 2{blank}3", blank):
                self.assert_refused(NoText, read_set, text)

    def test_numbers_written_otherwise(self):
        for word in NO_NUMBERS:
            if word != "-":
                self.assert_refused(NoText, read_set, word)
            self.assert_refused(NoText, read_set, f"-2 {word}")
            self.assert_refused(NoText, read_set, f"{word} 99")
            self.assert_refused(NoText, read_set, f"-2 {word} 99")

    def test_what_is_no_set(self):
        for text in ("1 1", "0 0", "2 1", "1 3 2", "-1 -2", "0 1 1", "- 1", "1 -", "- -", "--", "0 -1"):
            self.assert_refused(NoText, read_set, text)

    def test_more_than_sixty_numbers(self):
        self.assertEqual(read_set(" ".join(str(number) for number in range(60))), SIXTY)
        for many in (61, 62, 600):
            self.assert_refused(NoText, read_set, " ".join(str(number) for number in range(many)))

    def test_rows_are_no_sets(self):
        for text in ("0:2:5", "0:1:1", "1:2"):
            self.assert_refused(NoText, read_set, text)

    def test_things_that_are_no_text(self):
        for thing in things_that_are_no_texts():
            self.assert_refused(NoText, read_set, thing)

    def test_the_greatest_in_short_time(self):
        start = time.process_time()
        some = tuple(NINES - 60 + place for place in range(60))
        self.assertEqual(read_set(shown_set(some)), some)
        self.assert_refused(NoText, read_set, "1" * 1000000)
        self.assert_refused(NoText, read_set, "1 " * 100000)
        self.assertLess(time.process_time() - start, 5)


class Rows(Case):
    def test_some_rows(self):
        self.assertEqual(shown_row((0, 2, 5)), "0:2:5")
        self.assertEqual(read_row("0:2:5"), (0, 2, 5))
        self.assertEqual(read_row("-7:1:1"), (-7, 1, 1))
        self.assertEqual(shown_row((-FAR, FAR, 60)), f"-{FAR}:{FAR}:60")

    def test_what_is_shown_is_read_back(self):
        for first in (-NINES, -FAR, -10, -1, 0, 1, 10, FAR, NINES):
            for step in (1, 2, 10, FAR, NINES):
                for many in (1, 2, 60, 61, 1000, FAR, NINES):
                    row = (first, step, many)
                    with self.subTest(row=row):
                        self.assertEqual(shown_row(row), f"{first}:{step}:{many}")
                        told = read_row(shown_row(row))
                        self.assertEqual([told, type(told), *map(type, told)], [row, tuple, int, int, int])

    def test_a_step_or_a_many_below_one(self):
        for text in ("0:0:1", "0:1:0", "0:-1:5", "0:1:-5", "0:0:0", "5:-2:-2"):
            self.assert_refused(NoText, read_row, text)

    def test_parts_missing_or_too_many(self):
        for text in ("", ":", "::", "0", "0:1", "0:1:", ":1:1", "0::1", "0:1:1:", ":0:1:1", "0:1:1:1", "0:1:1:1:1", "-"):
            self.assert_refused(NoText, read_row, text)

    def test_numbers_written_otherwise(self):
        for word in NO_NUMBERS:
            for text in (f"{word}:1:1", f"0:{word}:1", f"0:1:{word}"):
                self.assert_refused(NoText, read_row, text)

    def test_blanks(self):
        for blank in (" ",) + OTHER_BLANKS:
            for text in (f"{blank}0:1:1", f"0:1:1{blank}", f"0:{blank}1:1", f"0:1{blank}:1", f"0{blank}1{blank}1"):
                self.assert_refused(NoText, read_row, text)

    def test_sets_are_no_rows(self):
        for text in ("0 1 2", "-", "5", "0 2:5:1"):
            self.assert_refused(NoText, read_row, text)

    def test_things_that_are_no_text(self):
        for thing in things_that_are_no_texts():
            self.assert_refused(NoText, read_row, thing)


if __name__ == "__main__":
    unittest.main()
