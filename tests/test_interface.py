"""The interface: how calls and answers are laid out, and what the function leaves alone."""

import ast
import contextlib
import io
import pathlib
import sys
import unittest

import pointbook
from pointbook import directory
from tests.helper import apart, box, find, more, name, parts, point, sizes, take, text, text_answer, walk

TEXT = "town t\ncode c1\nstreet s\nspan odd 1 5 c1 2 9\nletters 3 a a\nboxes 4 4 c1 2 0\n"
CALLS = (take(TEXT) + point(1) + more("code\n") + text() + sizes() + point(9) + more("code d\n") + more("")
         + point(3) + point(4) + take("x") + sizes() + walk(2) + find(0, 0, 3, 1) + box(0, 4) + name(1, 0, 0)
         + parts(3) + find(0, 0, 3, 27) + box(1, 4) + name(2, 0, 0) + name(0, 0, 1) + parts(5) + walk(3) + sizes())
EVERY_CALL = (take("town t\n"), more("code c\n"), text(), sizes(), point(0), find(0, 0, 1, 0), box(0, 1), walk(0),
              name(0, 0, 0), parts(0))


class Untouchable(list):
    """A list that refuses to be changed, for a while either."""

    def refuse(self, *told):
        raise AssertionError("what is handed in is changed")

    __setitem__ = __delitem__ = __iadd__ = __imul__ = refuse
    append = extend = insert = pop = remove = clear = sort = reverse = refuse


class LaidOut(unittest.TestCase):
    def test_one_behind_another(self):
        bytes_of_text = list(TEXT.encode())
        self.assertEqual(directory.answers(list(CALLS)), (
            [1, 0]
            + [10, 0, 0, 0, 3, 0, 2, 10, 2, 99, 49]
            + [3, -6, 6, 1]
            + [len(TEXT) + 1, len(TEXT)] + bytes_of_text
            + [9, 0, 1, 1, 1, 1, 1, 1, 5, 1]
            + [1, -4]
            + [1, 0]
            + [1, 0]
            + [10, 0, 0, 0, 3, 1, 2, 10, 2, 99, 49]
            + [10, 0, 0, -1, 4, 0, 2, 0, 2, 99, 49]
            + [3, -6, 0, 1]
            + [9, 0, 1, 1, 2, 1, 1, 1, 5, 1]
            + [6, 5, 4, 0, 1, 3, 2]
            + [1, 3]
            + [1, 4]
            + [2, 1, 115]
            + [35, 34] + list(b"number 3a\nstreet s\ntown t\ncode c1\n")
            + [1, -1]
            + [1, -3]
            + [1, -1]
            + [1, -4]
            + [1, -4]
            + [1, 0]
            + [9, 0, 1, 1, 2, 1, 1, 1, 5, 1]))

    def test_every_call_behind_every_call(self):
        """A call that is cut too short or too long shifts those behind it."""
        for first in EVERY_CALL:
            for second in EVERY_CALL:
                told = apart(directory.answers(first + second + [3]))
                self.assertEqual(len(told), 3, (first, second))
                self.assertEqual(len(told[2]), 9, (first, second))

    def test_numbers_that_look_like_calls(self):
        calls = [5, 2, 3, 0, 1, 6, 4, 0, 7, 5, 8, 0, 5, 6, 9, 2, 5, 9, 9, 9, 27, 8, 3, 4, 0]
        self.assertEqual(directory.answers(calls), [1, -3, 1, -3, 1, 0, 1, -4, 1, -4, 1, -1, 1, -1])

    def test_one_call_alone(self):
        self.assertEqual(directory.answers([2]), [1, 0])
        self.assertEqual(directory.answers([3]), [9, 0, 0, 0, 0, 0, 0, 0, 0, 0])
        self.assertEqual(directory.answers([4, 0]), [1, -4])
        self.assertEqual(directory.answers([0, 0]), [1, 0])
        self.assertEqual(directory.answers([1, 0]), [1, 0])
        self.assertEqual(directory.answers([5, 0, 0, 1, 0]), [1, -3])
        self.assertEqual(directory.answers([5, 0, 0, 1, 27]), [1, -1])
        self.assertEqual(directory.answers([6, 0, 1]), [1, -3])
        self.assertEqual(directory.answers([7, 0]), [1, 0])
        self.assertEqual(directory.answers([8, 0, 0, 0]), [1, -4])
        self.assertEqual(directory.answers([8, 2, 0, 0]), [1, -1])
        self.assertEqual(directory.answers([9, 0]), [1, -4])

    def test_bytes_that_look_like_calls(self):
        self.assertEqual(directory.answers([0, 3, 0, 1, 2, 3, 1, 2, 3, 4, 2]),
                         [3, -6, 0, 1, 9, 0, 0, 0, 0, 0, 0, 0, 0, 0, 3, -6, 0, 1, 1, 0])

    def test_gives_back_a_list_of_whole_numbers(self):
        told = directory.answers(list(CALLS))
        self.assertIs(type(told), list)
        self.assertEqual({type(number) for number in told}, {int})

    def test_four_hundred_calls(self):
        told = apart(directory.answers(take("town t\ncode c\nboxes 1 398 c 0 0\n")
                                       + [number for i in range(399) for number in point(i)]))
        self.assertEqual([answer[3:4] for answer in told], [[]] + [[n] for n in range(1, 399)] + [[]])

    def test_call_that_is_not_there(self):
        with self.assertRaises(directory.UnknownCall):
            directory.answers([10])


class LeftAlone(unittest.TestCase):
    def test_what_is_handed_in_is_not_changed(self):
        handed = list(CALLS)
        directory.answers(handed)
        self.assertEqual(handed, CALLS)

    def test_what_is_handed_in_is_not_changed_for_a_while_either(self):
        self.assertEqual(directory.answers(Untouchable(CALLS)), directory.answers(list(CALLS)))

    def test_what_is_given_back_is_the_callers_own(self):
        first = directory.answers(list(CALLS))
        kept = list(first)
        first.clear()
        self.assertEqual(directory.answers(list(CALLS)), kept)

    def test_nothing_is_kept_from_one_time_to_the_next(self):
        first = directory.answers(list(CALLS))
        self.assertEqual(directory.answers(text() + sizes()), [1, 0, 9] + [0] * 9)
        self.assertEqual(directory.answers(list(CALLS)), first)

    def test_nothing_is_printed(self):
        out = io.StringIO()
        with contextlib.redirect_stdout(out), contextlib.redirect_stderr(out):
            directory.answers(list(CALLS))
        self.assertEqual(out.getvalue(), "")

    def test_nothing_is_read_or_imported(self):
        for file in sorted(pathlib.Path(pointbook.__file__).parent.glob("*.py")):
            for node in ast.walk(ast.parse(file.read_text())):
                self.assertNotIsInstance(node, ast.Import, file)
                if isinstance(node, ast.ImportFrom):
                    self.assertTrue(node.module.startswith("pointbook."), file)
                if isinstance(node, ast.Name):
                    self.assertNotIn(node.id, ("print", "open", "input", "eval", "exec", "compile", "__import__"))


def depth():
    frame = sys._getframe()
    count = 0
    while frame is not None:
        count += 1
        frame = frame.f_back
    return count


class Long(unittest.TestCase):
    def shallow_answers(self, calls):
        """The answers, with few calls within one another allowed."""
        limit = sys.getrecursionlimit()
        sys.setrecursionlimit(depth() + 40)
        try:
            return directory.answers(calls)
        finally:
            sys.setrecursionlimit(limit)

    def test_long_texts_are_gone_through_by_loops(self):
        town = "town t\ncode c\nstreet s\n"
        spans = town + "".join(f"span all {n} {n} c 0 {n}\n" for n in range(1, 1100))
        for told in (spans, town + "span all 1 2000 c 0 0\n" + "".join(f"letters {n} a a\n" for n in range(1, 1700)),
                     "town a" + " | a" * 7000 + "\n", "town " + "a" * 29000 + "\n", "\n" * 29000, "x" * 29000,
                     "town t\n" * 512 + "street s\n" * 1024):
            calls = (take(told) + sizes() + point(1000) + text() + walk(0) + find(0, 0, 1000, 0) + find(0, 0, 1000, 1)
                     + box(0, 1) + name(0, 0, 5000) + name(1, 1000, 0) + parts(1000))
            self.assertLessEqual(len(calls), 30000)
            self.assertEqual(self.shallow_answers(calls), directory.answers(calls))

    def test_many_calls_are_gone_through_by_loops(self):
        calls = [3] * 400
        self.assertEqual(self.shallow_answers(calls), ([9] + [0] * 9) * 400)

    def test_four_hundred_calls_of_every_kind_on_one_object(self):
        calls = [call for k in range(40) for call in EVERY_CALL[::-1 if k % 2 else 1]]
        self.assertEqual(len(calls), 400)
        told = apart(self.shallow_answers([number for call in calls for number in call]))
        self.assertEqual(len(told), 400)
        self.assertEqual(told[:10], [[0], [0], text_answer("town t\ncode c\n"), [0, 1, 0, 1, 0, 0, 0, 0, 0], [-4], [-3],
                                     [-3], [0], text_answer("t"), [-4]])
        self.assertEqual(told[10:20], [[-4], text_answer("t"), [0], [-3], [-3], [-4], [0, 1, 0, 1, 0, 0, 0, 0, 0],
                                       text_answer("town t\ncode c\n"), [-6, 2, 4], [0]])
