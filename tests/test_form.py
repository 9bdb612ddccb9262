"""How lines are formed: each kind formed well, and each way in which it may be formed badly."""

import unittest

from tests.helper import NOT_FORMED, ask, fault, take

TOWN = "town t\ncode c\nstreet s\n"
SPAN = TOWN + "span all 1 99 c 0 0\n"
LONG_WORD = "a" * 32
EIGHT_WORDS = "a b c d e f g h"


class Form(unittest.TestCase):
    def well(self, before, *rows):
        for row in rows:
            with self.subTest(row=row):
                self.assertEqual(ask(take(before + row + "\n")), [[0]])

    def badly(self, before, *rows):
        line = before.count("\n")
        for row in rows:
            with self.subTest(row=row):
                self.assertEqual(ask(take(before + row + "\n")), [fault(line, NOT_FORMED)])

    def test_names_formed_well(self):
        for kind in ("town", "street"):
            self.well(TOWN, *[kind + " " + names for names in (
                "a", "z", "0", "9", "a b", "a | b", "a b | c d | e", "a | a", "town", "back | street span", "007 up2",
                LONG_WORD, EIGHT_WORDS, EIGHT_WORDS + " | " + EIGHT_WORDS,
                " ".join([LONG_WORD] * 8) + " | " + LONG_WORD, " | ".join(["n"] * 200))])

    def test_names_formed_badly(self):
        for kind in ("town", "street"):
            self.badly(TOWN, kind, kind + "a", kind + "s a", *[kind + " " + names for names in (
                "", " a", "a ", "a  b", "|", "| a", "a |", "a | ", "a | | b", "a || b", "a |  | b", "a|b", "a| b",
                "a |b", "a  | b", "a |  b", "a | b |", "A", "a B", "a.", "a-b", "a\tb", "a\rb", "a\r", "\x00",
                "a\xe4", "\xff", "a{", "a`", "a/", "a:", "a}", "a~", "a?", LONG_WORD + "a",
                "a | b " + LONG_WORD + "a", EIGHT_WORDS + " i", "a | " + EIGHT_WORDS + " i",
                EIGHT_WORDS + " i | a")])

    def test_code_formed_well(self):
        self.well("town t\n", "code a", "code z", "code 0", "code 9", "code 00", "code 12ab", "code abcdefghijkl",
                  "code 012345678901", "code code")

    def test_code_formed_badly(self):
        self.badly("town t\n", "code", "code ", "code  a", "code a ", "code a b", "code abcdefghijklm", "code |",
                   "code a | b", "code A", "code a-b", "code a\x80", "code a\t", "codea", "codes a")

    def test_span_formed_well(self):
        self.well(TOWN, "span all 1 1 c 0 0", "span all 1 1 c 0 0 back", "span all 99999 99999 c 9999 900000",
                  "span all 1 2 c 1 1", "span all 2 9 c 1 1 back", "span odd 1 1 c 1 1", "span odd 1 3 c 1 1",
                  "span odd 99997 99999 c 1 1", "span even 2 2 c 1 1 back", "span even 2 99998 c 1 1",
                  "span even 99998 99998 c 1 1", "span all 10 20 c 10 10")

    def test_span_with_blanks_or_words_amiss(self):
        self.badly(TOWN, "span", "span ", "span all", "span all 1 1", "span all 1 1 c", "span all 1 1 c 0",
                   "span all 1 1 c 0 ", "span all 1 1 c 0 0 ", " span all 1 1 c 0 0", "span  all 1 1 c 0 0",
                   "span all  1 1 c 0 0", "span all 1  1 c 0 0", "span all 1 1  c 0 0", "span all 1 1 c  0 0",
                   "span all 1 1 c 0  0", "span all 1 1 c 0 0  back", "spanall 1 1 c 0 0", "span all1 1 c 0 0",
                   "span 1 1 c 0 0", "span both 1 1 c 0 0", "span both 2 2 c 0 0",
                   "span odds 1 1 c 0 0", "span evens 2 2 c 0 0", "span | 2 2 c 0 0", "span  2 2 c 0 0",
                   "span alle 1 1 c 0 0", "span al 1 1 c 0 0", "span  1 1 c 0 0", "span all 1 1 c d 0 0",
                   "span all 1 1 0 0", "Span all 1 1 c 0 0", "span ALL 1 1 c 0 0", "span all 1 1 c 0 0\r")

    def test_span_with_something_behind_it(self):
        self.badly(TOWN, "span all 1 1 c 0 0 back ", "span all 1 1 c 0 0 back back", "span all 1 1 c 0 0 back 1",
                   "span all 1 1 c 0 0 forth", "span all 1 1 c 0 0 0", "span all 1 1 c 0 0 bac",
                   "span all 1 1 c 0 0 backs", "span all 1 1 c 0 0back", "span all 1 1 c 0 back",
                   "span all 1 1 c 0 0 Back", "span back all 1 1 c 0 0", "span all 1 1 c 0 0 | back")

    def test_span_with_numbers_amiss(self):
        self.badly(TOWN, "span all 0 1 c 0 0", "span all 0 0 c 0 0", "span all 1 0 c 0 0", "span all 01 1 c 0 0",
                   "span all 1 01 c 0 0", "span all 1 1 c 00 0", "span all 1 1 c 01 0", "span all 1 1 c 0 00",
                   "span all 1 1 c 0 05", "span all 99999 100000 c 0 0", "span all 100000 100000 c 0 0",
                   "span all 1 1 c 10000 0", "span all 1 1 c 0 900001", "span all 1 1 c 0 1000000",
                   "span all 1 999999 c 0 0", "span all 2 1 c 0 0", "span all 99 9 c 0 0", "span all a 1 c 0 0",
                   "span all 1 b c 0 0", "span all 1 1 c w 0", "span all 1 1 c 0 f", "span all -1 1 c 0 0",
                   "span all +1 1 c 0 0", "span all 1. 1 c 0 0", "span all 1,0 20 c 0 0", "span all 1_0 20 c 0 0",
                   "span all 0x1 1 c 0 0", "span all 1 1 c -1 0", "span all 1 1 c 0 -1", "span all \xb2 9 c 0 0",
                   "span all 1 " + "9" * 5000 + " c 0 0", "span all 1 1 c 0 " + "1" * 5000,
                   "span all 1 1 c " + "0" * 5000 + " 0")

    def test_span_with_numbers_not_of_the_side(self):
        self.badly(TOWN, "span odd 2 3 c 0 0", "span odd 1 2 c 0 0", "span odd 2 4 c 0 0", "span even 1 2 c 0 0",
                   "span even 2 3 c 0 0", "span even 1 3 c 0 0", "span odd 2 2 c 0 0", "span even 1 1 c 0 0",
                   "span even 2 99999 c 0 0", "span odd 3 1 c 0 0", "span even 4 2 c 0 0")

    def test_span_with_code_amiss(self):
        self.badly(TOWN, "span all 1 1 C 0 0", "span all 1 1 c- 0 0", "span all 1 1 abcdefghijklm 0 0",
                   "span all 1 1 | 0 0", "span all 1 1 \xe9 0 0")
        self.well("town t\ncode abcdefghijkl\nstreet s\n", "span all 1 1 abcdefghijkl 0 0")

    def test_letters_formed_well(self):
        self.well(SPAN, "letters 1 a a", "letters 1 a z", "letters 99 z z", "letters 50 c d")
        self.well(TOWN + "span all 99999 99999 c 0 0\n", "letters 99999 a b")

    def test_letters_formed_badly(self):
        self.badly(SPAN, "letters", "letters ", "letters 1", "letters 1 a", "letters 1 a ", "letters 1 a b ",
                   "letters 1  a b", "letters  1 a b", "letters 1 a  b", " letters 1 a b", "letters 1 a b c",
                   "letters 1 a b back", "letters 1 b a", "letters 1 z y", "letters 1 aa b", "letters 1 a bb",
                   "letters 1 1 2", "letters 1 a 2", "letters 1 0 a", "letters 1 A b", "letters 1 a B",
                   "letters 1 { {", "letters 1 ` a", "letters 1 a |", "letters 1 | |", "letters a a b",
                   "letters 01 a b", "letters 0 a b", "letters 100000 a b", "letters 1 ab", "letter 1 a b",
                   "letters1 a b", "letters 1 a-b", "letters 1 \xe0 \xe1", "letters " + "1" * 5000 + " a b")

    def test_boxes_formed_well(self):
        self.well("town t\ncode c\n", "boxes 1 1 c 0 0", "boxes 1 65536 c 9999 900000", "boxes 999999 999999 c 1 1",
                  "boxes 99999 100001 c 1 1", "boxes 2 3 c 1 1")

    def test_boxes_formed_badly(self):
        self.badly("town t\ncode c\n", "boxes", "boxes ", "boxes 1 1 c 0", "boxes 1 1 c 0 ", "boxes 1 1 c 0 0 ",
                   "boxes 1 1 c 0 0 back", "boxes 1 1 c 0 0 0", "boxes all 1 1 c 0 0", "boxes odd 1 1 c 0",
                   "boxes 1  1 c 0 0", "boxes  1 1 c 0 0", "boxes 1 1  c 0 0", "boxes 1 1 c  0 0",
                   "boxes 1 1 c 0  0", " boxes 1 1 c 0 0", "boxes 0 1 c 0 0", "boxes 01 1 c 0 0",
                   "boxes 1 01 c 0 0", "boxes 1 1 c 00 0", "boxes 1 1 c 0 00", "boxes 2 1 c 0 0",
                   "boxes 999999 1000000 c 0 0", "boxes 1000000 1000000 c 0 0", "boxes 1 1 c 10000 0",
                   "boxes 1 1 c 0 900001", "boxes 1 1 C 0 0", "boxes 1 1 abcdefghijklm 0 0", "boxes 1 1 0 0",
                   "box 1 1 c 0 0", "boxes a 1 c 0 0", "boxes 1 b c 0 0", "boxes 1 1 c w 0", "boxes 1 1 c 0 f",
                   "boxes 1 " + "9" * 5000 + " c 0 0")

    def test_rows_that_are_no_line(self):
        for before in ("", TOWN):
            self.badly(before, "", " ", "  ", "|", "a", "0", "towns a", "TOWN a", "Town a", " town a", "\ttown a",
                       "#", "town\ta", "\r", "\x00", "\xff", "?", "\x0btown a", "\x1ftown a", "!", "city a")

    def test_empty_line_between_lines(self):
        self.assertEqual(ask(take("town a\n\ntown b\n")), [fault(1, NOT_FORMED)])
        self.assertEqual(ask(take("\ntown a\n")), [fault(0, NOT_FORMED)])
        self.assertEqual(ask(take("town a\n\n")), [fault(1, NOT_FORMED)])
        self.assertEqual(ask(take("\n")), [fault(0, NOT_FORMED)])

    def test_last_line_without_its_line_feed(self):
        self.assertEqual(ask(take("town a")), [fault(0, NOT_FORMED)])
        self.assertEqual(ask(take("town a\ncode b")), [fault(1, NOT_FORMED)])
        self.assertEqual(ask(take("town a\n ")), [fault(1, NOT_FORMED)])
        self.assertEqual(ask(take("town a\n\x00")), [fault(1, NOT_FORMED)])

    def test_every_byte_in_a_word(self):
        fine = set(b"abcdefghijklmnopqrstuvwxyz0123456789")
        for byte in range(256):
            row = b"town a" + bytes([byte]) + b"b\n"
            told = ask(take(row))[0]
            if byte in fine or byte == ord(" "):
                self.assertEqual(told, [0], byte)
            elif byte == ord("\n"):
                self.assertEqual(told, fault(1, NOT_FORMED))
            else:
                self.assertEqual(told, fault(0, NOT_FORMED), byte)
