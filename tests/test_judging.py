"""When a line can't stand, when it clashes, what is too much, and which fault is told."""

import unittest

from tests.helper import CANNOT_STAND, CLASHES, NOT_FORMED, TOO_MUCH, as_bytes, ask, fault, take, verdict

TOWN = "town t\ncode c\nstreet s\n"


class Judging(unittest.TestCase):
    def fine(self, *texts):
        for told in texts:
            with self.subTest(text=told[-60:]):
                self.assertEqual(ask(take(told)), [[0]])

    def last_line_is(self, why, *texts):
        for told in texts:
            with self.subTest(text=told[-60:]):
                self.assertEqual(ask(take(told)), [fault(told.count("\n") - 1, why)])


class CanStand(Judging):
    def test_before_all_others_stands_a_town(self):
        self.last_line_is(CANNOT_STAND, "code c\n", "street s\n", "span all 1 1 c 0 0\n", "letters 1 a a\n",
                          "boxes 1 1 c 0 0\n")
        self.fine("", "town t\n", "town t\ntown t\n", "town t\ncode c\n", "town t\nstreet s\n")

    def test_before_a_span_or_letters_stands_a_street_of_this_town(self):
        self.last_line_is(CANNOT_STAND, "town t\ncode c\nspan all 1 1 c 0 0\n", "town t\ncode c\nletters 1 a a\n",
                          TOWN + "town u\ncode c\nspan all 1 1 c 0 0\n",
                          TOWN + "span all 1 1 c 0 0\ntown u\nletters 1 a a\n")
        self.fine(TOWN + "boxes 1 1 c 1 1\ncode d\nspan all 1 1 d 0 0\ncode e\nboxes 2 2 e 2 2\nletters 1 a a\n")

    def test_boxes_need_no_street(self):
        self.fine("town t\ncode c\nboxes 1 1 c 0 0\n")

    def test_code_is_told_before(self):
        self.last_line_is(CANNOT_STAND, "town t\nstreet s\nspan all 1 1 c 0 0\n", "town t\nboxes 1 1 c 0 0\n",
                          TOWN + "span all 1 1 cc 0 0\n", TOWN + "boxes 1 1 d 0 0\n",
                          TOWN + "town u\nboxes 1 1 c 0 0\n", TOWN + "town u\nstreet s\nspan all 1 1 c 0 0\n")
        told = "town t\nstreet s\nspan all 1 1 c 0 0\ncode c\n"
        self.assertEqual(ask(take(told)), [fault(2, CANNOT_STAND)])
        self.fine("town t\nstreet s\ncode c\nspan all 1 1 c 0 0\n", "town t\ncode b\ncode c\nboxes 1 1 b 0 0\n")

    def test_letters_number_is_a_spans_on_this_street(self):
        self.last_line_is(CANNOT_STAND, TOWN + "letters 1 a a\n", TOWN + "span all 2 4 c 0 0\nletters 1 a a\n",
                          TOWN + "span all 2 4 c 0 0\nletters 5 a a\n", TOWN + "span odd 1 9 c 0 0\nletters 4 a a\n",
                          TOWN + "span even 2 8 c 0 0\nletters 3 a a\n", TOWN + "boxes 1 9 c 0 0\nletters 1 a a\n",
                          TOWN + "span all 1 9 c 0 0\nstreet s\nletters 1 a a\n",
                          TOWN + "span odd 1 1 c 0 0\nspan odd 5 5 c 0 9\nletters 3 a a\n")
        self.fine(TOWN + "span all 2 4 c 0 0\nletters 2 a a\nletters 4 a a\n",
                  TOWN + "span odd 1 9 c 0 0\nletters 1 a a\nletters 9 a a\n",
                  TOWN + "span all 50 60 c 0 0\nspan even 2 8 c 0 20\nletters 6 a a\nletters 55 a a\n")


class Clashes(Judging):
    def test_code_told_of_this_town(self):
        self.last_line_is(CLASHES, TOWN + "code c\n", "town t\ncode a\ncode b\ncode a\n",
                          "town t\ncode a\ntown u\ncode a\ncode a\n")
        self.fine("town t\ncode c\ntown t\ncode c\n", "town t\ncode c\ncode cc\ncode 0\ncode 00\n")

    def test_a_spans_number_on_this_street(self):
        first = TOWN + "span all 10 20 c 0 0\n"
        self.last_line_is(CLASHES, *[first + "span " + numbers + " c 1 0\n" for numbers in (
            "all 10 20", "all 10 10", "all 20 20", "all 1 10", "all 20 30", "all 1 99999", "all 15 15", "odd 11 11",
            "odd 19 21", "odd 1 99", "even 2 10", "even 20 20", "even 12 14")])
        self.fine(*[first + "span " + numbers + " c 1 0\n" for numbers in (
            "all 1 9", "all 21 30", "odd 1 9", "odd 21 99", "even 2 8", "even 22 22")])

    def test_odd_and_even_numbers_lie_between_each_other(self):
        for n in (11, 12, 15, 16, 19, 20):
            side = "even 2 40" if n % 2 else "odd 1 41"
            self.fine(TOWN + f"span {side} c 0 0\nspan all {n} {n} c 1 0\n",
                      TOWN + f"span all {n} {n} c 1 0\nspan {side} c 0 0\n")
            self.last_line_is(CLASHES, TOWN + f"span {side} c 0 0\nspan all {n} {n + 1} c 1 0\n",
                              TOWN + f"span {side} c 0 0\nspan all {n - 1} {n} c 1 0\n")
        first = TOWN + "span odd 11 19 c 0 0\n"
        self.fine(first + "span even 2 98 c 1 0\n", first + "span all 10 10 c 1 0\nspan all 12 12 c 2 0\n",
                  first + "span even 10 20 c 1 0\nspan odd 1 9 c 2 0\nspan odd 21 99 c 3 0\n")
        self.last_line_is(CLASHES, first + "span all 10 11 c 1 0\n", first + "span all 19 20 c 1 0\n",
                          first + "span even 10 20 c 1 0\nspan all 20 20 c 2 0\n", first + "span odd 1 11 c 1 0\n",
                          first + "span even 10 20 c 1 0\nspan all 1 10 c 2 0\n")

    def test_a_spans_number_among_many(self):
        spans = "".join(f"span all {n} {n + 1} c {n} 0 back\n" for n in (50, 10, 90, 30, 70, 20, 80))
        for n in range(5, 98):
            told = TOWN + spans + f"span all {n} {n} c 0 0\n"
            taken = n % 10 < 2 and n // 10 in (5, 1, 9, 3, 7, 2, 8)
            self.assertEqual(ask(take(told)), [fault(10, CLASHES) if taken else [0]], n)

    def test_spans_of_other_streets_do_not_clash(self):
        self.fine(TOWN + "span all 1 9 c 0 0\nstreet s\nspan all 1 9 c 1 0\ntown t\ncode c\nstreet s\n"
                  "span all 1 9 c 2 0\nboxes 1 9 c 3 0\n")

    def test_letters_that_the_number_has(self):
        first = TOWN + "span all 1 9 c 0 0\nletters 4 f j\n"
        self.last_line_is(CLASHES, *[first + "letters 4 " + letters + "\n" for letters in (
            "f j", "f f", "j j", "a f", "j z", "a z", "h h")])
        self.last_line_is(CLASHES, first + "letters 5 a z\nletters 4 k k\nletters 4 k k\n")
        self.fine(first + "letters 4 a e\nletters 4 k z\nletters 5 f j\n",
                  first + "street s\nspan all 4 4 c 1 0\nletters 4 f j\n")

    def test_boxes_that_the_town_has(self):
        first = TOWN + "boxes 10 20 c 0 0\n"
        self.last_line_is(CLASHES, *[first + "boxes " + numbers + " c 1 0\n" for numbers in (
            "10 20", "10 10", "20 20", "1 10", "20 30", "1 999999", "15 15")])
        self.last_line_is(CLASHES, first + "street u\nboxes 15 16 c 1 0\n")
        self.fine(first + "boxes 1 9 c 1 0\nboxes 21 999 c 2 0\n", first + "town u\ncode c\nboxes 10 20 c 1 0\n",
                  first + "span all 10 20 c 1 0\n")

    def test_a_place_in_a_walk(self):
        second_town = "town u\ncode d\nstreet v\n"
        firsts = ("span all 11 15 c 7 100\n", "span odd 11 19 c 7 100\n", "span even 2 10 c 7 100 back\n",
                  "boxes 1 5 c 7 100\n")
        for first in firsts:
            before = TOWN + first + second_town
            self.last_line_is(CLASHES, *[before + line for line in (
                "span all 1 1 d 7 100\n", "span all 1 1 d 7 104\n", "span all 1 5 d 7 96\n", "boxes 1 1 d 7 104\n",
                "span all 1 50 d 7 90\n", "span odd 1 9 d 7 104 back\n", "boxes 9 9 d 7 102\n", "boxes 1 5 d 7 96\n",
                "boxes 1 5 d 7 104\n", "span even 2 10 d 7 100\n")])
            self.fine(*[before + line for line in (
                "span all 1 5 d 7 95\n", "span all 1 5 d 7 105\n", "boxes 1 5 d 7 95\n", "boxes 1 5 d 7 105\n",
                "span odd 1 9 d 7 95 back\n", "span all 1 5 d 8 100\n", "boxes 1 9 d 6 100\n")])

    def test_a_place_in_the_same_town(self):
        self.last_line_is(CLASHES, TOWN + "span all 1 5 c 0 0\nspan all 6 6 c 0 4\n",
                          TOWN + "span all 1 5 c 0 0\nboxes 1 1 c 0 2\n",
                          TOWN + "boxes 1 5 c 9999 900000\nboxes 6 6 c 9999 900000\n",
                          TOWN + "boxes 1 5 c 1 899999\nspan all 1 1 c 1 900000\n")

    def test_letters_have_no_place_of_their_own(self):
        self.fine(TOWN + "span all 1 1 c 0 0\nletters 1 a z\nspan all 2 2 c 0 1\n")


def numbered(count):
    """So many words, each of three letters."""
    signs = "abcdefghijklmnopqrstuvwxyz"
    return [signs[n // 676] + signs[n // 26 % 26] + signs[n % 26] for n in range(count)]


def text_of_lines(count):
    """A text of so many lines that can all stand: with 4,096 it has at most 65,536 bytes."""
    lines = ["town t", "code c", "street s", "span all 1 2560 c 0 0"]
    lines += [f"letters {n} a a" for n in range(1, 2561)]
    lines += ["street s"] * 1023 + ["town t"] * 509
    assert count <= len(lines)
    return "\n".join(lines[:count]) + "\n"


class TooMuch(Judging):
    def test_lines(self):
        most = text_of_lines(4096)
        self.assertLessEqual(len(most) + 40, 65536)
        self.assertEqual(verdict(most), [0])
        self.assertEqual(verdict(most[:-1]), fault(4095, NOT_FORMED))
        for line in ("code d\n", "town t\n"):
            self.assertEqual(verdict(most + line), fault(4096, TOO_MUCH))

    def test_the_line_beyond_has_other_reasons(self):
        most = text_of_lines(4095) + "code c\n"
        self.assertEqual(verdict(most), [0])
        self.assertEqual(verdict(most + "code c\n"), fault(4096, CLASHES))
        self.assertEqual(verdict(most + "span all 1 1 c 0 0\n"), fault(4096, CANNOT_STAND))
        self.assertEqual(verdict(most + "code\n"), fault(4096, NOT_FORMED))
        self.assertEqual(verdict(most + "code d"), fault(4096, NOT_FORMED))
        self.assertEqual(verdict(most + "code d\n"), fault(4096, TOO_MUCH))
        self.assertEqual(verdict(most + "boxes 1 1 c 1 1\n"), fault(4096, TOO_MUCH))

    def test_towns(self):
        self.fine("town t\n" * 512, "town t\n" * 512 + "street s\ncode c\n")
        self.last_line_is(TOO_MUCH, "town t\n" * 513, "town t\nstreet s\n" * 512 + "town t\n")

    def test_streets_of_all_towns(self):
        self.fine("town t\n" + "street s\n" * 1024, ("town t\n" + "street s\n" * 512) * 2 + "code c\ntown t\n")
        self.last_line_is(TOO_MUCH, "town t\n" + "street s\n" * 1025,
                          ("town t\n" + "street s\n" * 512) * 2 + "street s\n",
                          ("town t\n" + "street s\n" * 512) * 2 + "town t\nstreet s\n")

    def test_codes_of_all_towns_together(self):
        one = "town t\n" + "".join("code " + word + "\n" for word in numbered(1024))
        half = "town t\n" + "".join("code " + word + "\n" for word in numbered(512))
        self.fine(one, half + half, half + half + "street s\ntown t\n")
        self.last_line_is(TOO_MUCH, one + "code z\n", half + half + "code z\n", one + "town u\ncode aaa\n")
        self.last_line_is(CLASHES, one + "code aaa\n")

    def test_points_of_one_line(self):
        self.fine(TOWN + "span all 1 65536 c 0 0\n", TOWN + "boxes 2 65537 c 0 0\n", TOWN + "span odd 1 99999 c 0 0\n")
        self.last_line_is(TOO_MUCH, TOWN + "span all 1 65537 c 0 0\n", TOWN + "boxes 2 65538 c 0 0\n",
                          TOWN + "span all 1 99999 c 0 0\n", TOWN + "boxes 1 999999 c 0 0\n")

    def test_points_of_spans_letters_and_boxes_together(self):
        before = TOWN + "span odd 1 79999 c 0 0\nletters 5 a z\nboxes 1 20000 c 1 0\nletters 7 b y\n"
        self.fine(before + "span even 2 10972 c 2 0\n", before + "boxes 20001 25486 c 2 0\n",
                  before + "span even 2 10922 c 2 0\nletters 9 a y\n")
        self.last_line_is(TOO_MUCH, before + "span even 2 10974 c 2 0\n", before + "boxes 20001 25487 c 2 0\n",
                          before + "span even 2 10922 c 2 0\nletters 9 a z\n")
        full = before + "span even 2 10972 c 2 0\n"
        self.last_line_is(TOO_MUCH, full + "letters 9 a a\n", full + "boxes 20001 20001 c 3 0\n",
                          full + "span all 99999 99999 c 3 0\n")
        self.fine(full + "code d\nstreet s\ntown t\n")


class Fault(Judging):
    def test_not_formed_goes_before_all(self):
        self.last_line_is(NOT_FORMED, "span all 2 1 c 0 0\n", "code C\n", TOWN + "code c \n",
                          TOWN + "boxes 1 9 c 0 0\nboxes 1 999999 c 0 900001\n")
        self.assertEqual(ask(take("code c")), [fault(0, NOT_FORMED)])
        self.assertEqual(ask(take(TOWN + "code c")), [fault(3, NOT_FORMED)])
        self.last_line_is(NOT_FORMED, "town t\n" * 512 + "town T\n")
        self.assertEqual(ask(take("town t\n" * 512 + "town t")), [fault(512, NOT_FORMED)])

    def test_cannot_stand_goes_before_clash_and_too_much(self):
        before = TOWN + "span all 1 9 c 0 0\nboxes 1 9 c 1 0\n"
        self.last_line_is(CANNOT_STAND, before + "span all 1 9 d 0 0\n", before + "boxes 1 9 d 0 0\n",
                          before + "span all 1 99999 d 0 0\n", before + "boxes 1 999999 d 0 0\n",
                          before + "town t\ncode c\nspan all 1 99999 c 0 0\n")
        full = "town t\ncode c\nstreet s\nspan all 1 65536 c 0 0\n"
        self.last_line_is(CANNOT_STAND, full + "letters 65537 a a\n")

    def test_clash_goes_before_too_much(self):
        before = TOWN + "span all 9 9 c 5 70000\nboxes 70000 70000 c 6 0\n"
        self.last_line_is(CLASHES, before + "span all 1 99999 c 0 0\n", before + "span odd 1 99999 c 0 0\n",
                          before + "boxes 1 999999 c 0 0\n", before + "boxes 1 69999 c 5 5000\n",
                          before + "span all 10 99999 c 5 0\n")
        self.last_line_is(TOO_MUCH, before + "span all 10 99999 c 0 0\n", before + "boxes 1 69999 c 5 0\n")
        self.last_line_is(CLASHES, TOWN + "span all 1 65536 c 0 0\nboxes 1 1 c 0 65535\n",
                          TOWN + "span all 1 65510 c 0 0\nletters 3 a z\nletters 3 z z\n")

    def test_the_first_faulty_line_is_told(self):
        self.assertEqual(ask(take("town t\ncode c\ncode c\nstreet\nspan all 1 1 d 0 0\n")), [fault(2, CLASHES)])
        self.assertEqual(ask(take("town t\nspan all 1 1 d 0 0\ncode c\ncode c\n\n")), [fault(1, CANNOT_STAND)])
        self.assertEqual(ask(take(TOWN + "boxes 1 65537 c 0 0\nboxes 0 0 c 0 0\n")), [fault(3, TOO_MUCH)])
        self.assertEqual(ask(take("\n\n")), [fault(0, NOT_FORMED)])
        self.assertEqual(ask(take("code c\ntown T\n")), [fault(0, CANNOT_STAND)])

    def test_a_faulty_line_is_not_counted_in(self):
        told = "town t\n" * 513 + "x\n"
        self.assertEqual(verdict(as_bytes(told)), fault(512, TOO_MUCH))
