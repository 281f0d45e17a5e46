"""The document's examples, number by number."""

import unittest

from helper import BAD, GOOD, STUCK, TOP_NUMBER, came, drop, put, run, settle, state, told, touch, value, why
from rerun.books import answers

FIRST = [put("a", "1"), put("b", "2", ["a"]), put("c", "3", ["a", "b"]),
         settle(9), came("1"), came("21"), came("3121")]


class Examples(unittest.TestCase):
    def test_in_order(self):
        calls = FIRST + [
            put("a", "1"), settle(9),
            touch("a"), settle(9), came("1"),
            put("b", "2", ["c"]), settle(9), why(1),
            drop("c"), settle(0), why(1),
            put("A"), came("1"),
        ]
        self.assertEqual(run(*calls), [
            [0], [1], [2],
            told(1, 0, [], ("a", "1", [])),
            told(1, 1, [(0, GOOD)], ("b", "2", ["1"])),
            told(1, 2, [(1, GOOD)], ("c", "3", ["1", "21"])),
            told(0, 3, [(2, GOOD)]),
            [0], told(0, 0, [(0, GOOD), (1, GOOD), (2, GOOD)]),
            [0], told(1, 0, [], ("a", "1", [])), told(0, 1, [(0, GOOD), (1, GOOD), (2, GOOD)]),
            [1], told(0, 0, [(1, STUCK), (2, STUCK)]), [3, 0, 2],
            [2], told(0, 0, [(1, STUCK)]), [1, 0, 0],
            [-1], [-8],
        ])

    def test_written_out(self):
        calls = [1, 0, 2, 1, 97, 1, 49,
                 1, 0, 3, 1, 98, 1, 50, 1, 97,
                 1, 0, 4, 1, 99, 1, 51, 1, 97, 1, 98,
                 4, 1, 9, 0,
                 5, 1, 0, 1, 1, 49,
                 5, 1, 0, 1, 2, 50, 49,
                 5, 1, 0, 1, 4, 51, 49, 50, 49,
                 1, 0, 2, 1, 97, 1, 49,
                 4, 1, 9, 0,
                 3, 0, 1, 1, 97,
                 4, 1, 9, 0,
                 5, 1, 0, 1, 1, 49,
                 1, 0, 3, 1, 98, 1, 50, 1, 99,
                 4, 1, 9, 0,
                 13, 1, 1, 0,
                 2, 0, 1, 1, 99,
                 4, 1, 0, 0,
                 13, 1, 1, 0,
                 1, 0, 2, 1, 65, 0,
                 5, 1, 0, 1, 1, 49]
        self.assertEqual(answers(calls), [
            1, 0,
            1, 1,
            1, 2,
            7, 1, 0, 0, 1, 97, 1, 49,
            11, 1, 1, 1, 0, 1, 1, 98, 1, 50, 1, 49,
            14, 1, 2, 1, 1, 1, 1, 99, 1, 51, 1, 49, 2, 50, 49,
            5, 0, 3, 1, 2, 1,
            1, 0,
            9, 0, 0, 3, 0, 1, 1, 1, 2, 1,
            1, 0,
            7, 1, 0, 0, 1, 97, 1, 49,
            9, 0, 1, 3, 0, 1, 1, 1, 2, 1,
            1, 1,
            7, 0, 0, 2, 1, 3, 2, 3,
            3, 3, 0, 2,
            1, 2,
            5, 0, 0, 1, 1, 3,
            3, 1, 0, 0,
            1, -1,
            1, -8,
        ])

    def test_value_too_long(self):
        self.assertEqual(run(put("a"), settle(1), came([0] * 16385), state(0), value(0))[2:],
                         [told(0, 1, [(0, BAD)]), [BAD, 0, 0, 1, 0, 0, TOP_NUMBER], [-4]])
