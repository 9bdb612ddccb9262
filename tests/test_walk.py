"""The call walk: the points of a walk, in their order; a walk that has none; walks of very many points."""

import time
import unittest

from tests.helper import PlainJudge, as_bytes, ask, fault, more, sizes, take, walk
from tests.sample import WHOLE, WHOLE_WALKS

MOST = 4294967295
TOWN = "town t\ncode c\nstreet s\n"


def walk_answer(numbers):
    return [len(numbers)] + list(numbers)


class Walk(unittest.TestCase):
    def walks_are(self, held, wanted):
        """That a text's walks are these: taken, behind refusals, grown by more; and so the plain judge finds them."""
        lines = held.splitlines(keepends=True)
        calls = [walk(w) for w in wanted]
        answers = [walk_answer(wanted[w]) for w in wanted]
        self.assertEqual(ask(take(held), *calls), [[0]] + answers)
        behind = ask(take(held), take(TOWN + "boxes 1 9 c 7 0\nx\n"), more("town u"), *calls)
        self.assertEqual(behind, [[0], fault(4, 1), fault(len(lines), 1)] + answers)
        self.assertEqual(ask(*[more(line) for line in lines], *calls), [[0]] * len(lines) + answers)
        judge = PlainJudge(as_bytes(held))
        self.assertEqual([judge.walk(w) for w in wanted], [list(wanted[w]) for w in wanted])
        self.assertEqual(judge.walks(), sorted(w for w in wanted if wanted[w]))

    def test_walks_of_a_directory(self):
        self.walks_are(WHOLE, WHOLE_WALKS)

    def test_a_walk_that_has_no_point(self):
        self.walks_are(WHOLE, WHOLE_WALKS | {w: [] for w in (0, 1, 6, 9, 9998, 10000, 65543, MOST)})
        self.walks_are(TOWN, {0: [], 7: [], MOST: []})

    def test_none_in_the_directory_of_no_lines(self):
        for before in ([], [take("x")], [more(TOWN + "boxes 1 1 c 0 0")], [take(WHOLE), take("")]):
            told = ask(*before, walk(0), walk(7), walk(9999), walk(MOST))
            self.assertEqual(told[len(before):], [[0]] * 4)

    def test_forth_and_back(self):
        for side, count in (("all 3 7", 5), ("odd 3 11", 5), ("even 4 12", 5), ("all 9 9", 1), ("odd 9 9", 1)):
            self.walks_are(TOWN + f"span {side} c 5 20\n", {5: range(count)})
            self.walks_are(TOWN + f"span {side} c 5 20 back\n", {5: range(count)[::-1]})

    def test_boxes_rise(self):
        self.walks_are("town t\ncode c\nboxes 999995 999999 c 9999 900000\n", {9999: range(5)})

    def test_by_place_not_by_line(self):
        self.walks_are(TOWN + "span all 1 3 c 0 50\nspan all 4 6 c 0 20 back\nboxes 1 2 c 0 100\nboxes 3 4 c 0 0\n"
                       "span odd 11 15 c 0 53\nspan even 12 16 c 0 47 back\n",
                       {0: [8, 9, 5, 4, 3, 15, 14, 13, 0, 1, 2, 10, 11, 12, 6, 7]})

    def test_places_of_more_digits_stand_behind(self):
        self.walks_are(TOWN + "boxes 1 1 c 0 100000\nboxes 2 2 c 0 9\nboxes 3 3 c 0 10\nboxes 4 4 c 0 900000\n"
                       "boxes 5 5 c 0 0\nboxes 6 6 c 0 99999\n", {0: [4, 1, 2, 5, 0, 3]})

    def test_letters_stand_behind_their_number_by_letter(self):
        self.walks_are(TOWN + "span all 1 3 c 0 0\nletters 2 m n\nletters 3 a a\nletters 2 z z\nletters 2 a b\n"
                       "letters 1 x z\nletters 2 c l\n",
                       {0: [0, 9, 10, 11, 1, 7, 8, *range(12, 22), 3, 4, 6, 2, 5]})

    def test_letters_with_back(self):
        self.walks_are(TOWN + "span even 2 6 c 0 0 back\nletters 4 c d\nletters 6 b b\nletters 4 a a\nletters 2 a b\n",
                       {0: [2, 5, 1, 6, 3, 4, 0, 7, 8]})

    def test_letters_of_another_street_or_side_do_not_come_in(self):
        held = (TOWN + "span odd 1 5 c 0 0\nspan even 2 4 c 1 0\nletters 3 a b\nletters 4 q q\nstreet s\n"
                "span all 3 4 c 0 10 back\nletters 4 c c\nboxes 3 4 c 0 5\n")
        self.walks_are(held, {0: [0, 1, 5, 6, 2, 11, 12, 9, 10, 8], 1: [3, 4, 7]})

    def test_boxes_have_no_letters(self):
        self.walks_are(TOWN + "span all 1 2 c 0 0\nletters 1 a b\nboxes 1 2 c 1 0\n", {0: [0, 2, 3, 1], 1: [4, 5]})

    def test_several_towns_in_one_walk(self):
        self.walks_are("town t\ncode c\nstreet s\nspan all 1 2 c 3 10\ntown u\ncode c\nboxes 1 2 c 3 0\nstreet s\n"
                       "span all 1 2 c 3 5 back\nletters 2 b c\ntown t\ncode d\nboxes 1 1 d 3 7\nboxes 2 2 d 4 0\n"
                       "street s\nspan odd 1 3 d 3 20\nletters 1 a a\n",
                       {3: [2, 3, 5, 6, 7, 4, 8, 0, 1, 10, 12, 11], 4: [9]})

    def test_all_walks_together_are_all_points_each_once(self):
        held = "town t\ncode c\n" + "".join(
            f"street s\nspan odd 1 9 c {n % 7} {n * 50} back\nspan even 2 8 c {n % 5} {n * 50 + 10}\nletters 4 a c\n"
            f"boxes {n * 3 + 1} {n * 3 + 3} c {n % 3} {n * 50 + 20}\n" for n in range(40))
        judge = PlainJudge(as_bytes(held))
        self.walks_are(held, {w: judge.walk(w) for w in range(8)})
        told = ask(take(held), sizes(), *[walk(w) for w in range(8)])
        together = [i for answer in told[2:] for i in answer[1:]]
        self.assertEqual(told[1][-2:], [600, 7])
        self.assertEqual(sorted(together), list(range(600)))


class VeryMany(unittest.TestCase):
    def in_good_time(self, *calls):
        """What these calls answer; that this takes no longer than some seconds: by far more than it needs."""
        begin = time.process_time()
        told = ask(*calls)
        self.assertLess(time.process_time() - begin, 15)
        return told

    def test_of_one_span(self):
        for behind, wanted in (("", range(65536)), (" back", range(65536)[::-1])):
            told = self.in_good_time(take(TOWN + f"span all 34464 99999 c 9999 900000{behind}\n"), *[walk(9999)] * 14)
            self.assertEqual(told, [[0]] + [walk_answer(wanted)] * 14)

    def test_of_boxes(self):
        told = self.in_good_time(take("town t\ncode c\nboxes 1 65536 c 0 0\n"), *[walk(0)] * 14)
        self.assertEqual(told, [[0]] + [walk_answer(range(65536))] * 14)

    def test_of_very_many_letters(self):
        lines = [f"letters {n} a z\n" for n in range(1, 1751)]
        told = self.in_good_time(take(TOWN + "span all 1 1750 c 7 0 back\n" + "".join(reversed(lines))), sizes(),
                                 *[walk(7)] * 10)
        wanted = []
        for k in range(1750):
            wanted += [1749 - k] + list(range(1750 + k * 26, 1750 + k * 26 + 26))
        self.assertEqual(told[1], [0, 1, 1, 1, 1, 1750, 0, 47250, 1])
        self.assertEqual(told[2:], [walk_answer(wanted)] * 10)

    def test_of_very_many_spans(self):
        spans = "".join(f"span all {n} {n} c 7 {2000 - n}\n" for n in range(1, 1100))
        told = self.in_good_time(take(TOWN + spans + "span all 1101 65536 c 7 3000\n"), *[walk(7)] * 14)
        self.assertEqual(told, [[0]] + [walk_answer(list(range(1099))[::-1] + list(range(1099, 65535)))] * 14)

    def test_of_many_walks(self):
        spans = "".join(f"span all {n * 60 + 1} {n * 60 + 60} c {n} 0 back\n" for n in range(800))
        told = self.in_good_time(take(TOWN + spans), *[walk(n) for n in (0, 1, 450, 799, 800)])
        self.assertEqual(told[1:], [walk_answer(range(n * 60, n * 60 + 60)[::-1]) for n in (0, 1, 450, 799)] + [[0]])
