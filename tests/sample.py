"""A directory of every kind of line, and what is told of it."""

from tests.helper import point_answer

WHOLE = ("town alt dorf | dorf\ncode 12a\ncode 0\nstreet main street | high street\nspan odd 1 5 12a 7 100\n"
         "letters 3 b c\nspan even 2 6 0 8 0 back\nboxes 10 12 0 7 50\nstreet lane\nspan all 3 4 12a 7 200 back\n"
         "town neu\ncode 12a\nboxes 999999 999999 12a 9999 900000\nstreet lane\nspan all 9 9 12a 8 3\nletters 9 z z\n")
WHOLE_POINTS = [
    point_answer(0, 0, 1, 0, 7, 100, "12a"),
    point_answer(0, 0, 3, 0, 7, 101, "12a"),
    point_answer(0, 0, 5, 0, 7, 102, "12a"),
    point_answer(0, 0, 3, 2, 7, 101, "12a"),
    point_answer(0, 0, 3, 3, 7, 101, "12a"),
    point_answer(0, 0, 2, 0, 8, 2, "0"),
    point_answer(0, 0, 4, 0, 8, 1, "0"),
    point_answer(0, 0, 6, 0, 8, 0, "0"),
    point_answer(0, -1, 10, 0, 7, 50, "0"),
    point_answer(0, -1, 11, 0, 7, 51, "0"),
    point_answer(0, -1, 12, 0, 7, 52, "0"),
    point_answer(0, 1, 3, 0, 7, 201, "12a"),
    point_answer(0, 1, 4, 0, 7, 200, "12a"),
    point_answer(1, -1, 999999, 0, 9999, 900000, "12a"),
    point_answer(1, 2, 9, 0, 8, 3, "12a"),
    point_answer(1, 2, 9, 26, 8, 3, "12a"),
]
WHOLE_SIZES = [0, 2, 3, 3, 4, 2, 2, 16, 3]
WHOLE_WALKS = {7: [8, 9, 10, 0, 1, 3, 4, 2, 12, 11], 8: [7, 6, 5, 14, 15], 9999: [13]}
WHOLE_NAMES = {0: [["alt dorf", "dorf"], ["neu"]], 1: [["main street", "high street"], ["lane"], ["lane"]]}
