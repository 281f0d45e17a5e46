"""How calls are handed in and answered, and what the program leaves alone."""

import contextlib
import io
import sys
import unittest

from helper import (
    GOOD, STUCK, ask_next, book, came, cell, counts, drop, failed, find, last, leans_of, load, put, ran, run, save,
    settle, split, state, text_of, told, touch, users, value, why,
)
from rerun.books import answers

EACH_CALL = [
    put("a", "1"), put("b", "22", ["a", "c"]), put("c", "", ["a"]), find("b"), state(1), ask_next(),
    settle(5), ask_next(), came("v"), failed(3), touch("a"), drop("c"), settle(0), put("A"), failed(1),
    value(0), text_of(1), leans_of(1), users(0), why(1), counts(), save(),
    load(book(cell(5, "a", "1", ["q"], 3), cell(7, "z", "", [], 1, 0, ran(value="zz")))), load([76, 87, 75, 49, 1, 0]),
    value(7), text_of(5), leans_of(5), users(5), why(5), counts(), save(), load(book(many=1)), load(book() + [0]),
]


class Watched(list):
    """A list that can't be changed, not for a while either."""

    def refuse(self, *args, **kwargs):
        raise AssertionError("the list handed in was changed")

    append = extend = insert = pop = remove = clear = sort = reverse = refuse
    __setitem__ = __delitem__ = __iadd__ = __imul__ = refuse


def depth():
    frame, count = sys._getframe(), 0
    while frame is not None:
        frame, count = frame.f_back, count + 1
    return count


class Interface(unittest.TestCase):
    def test_empty(self):
        self.assertEqual(answers([]), [])

    def test_gives_back_a_list_of_whole_numbers(self):
        out = answers(sum(EACH_CALL, []))
        self.assertIs(type(out), list)
        self.assertEqual({type(number) for number in out}, {int})

    def test_what_is_handed_in_stays(self):
        calls = sum(EACH_CALL, [])
        before = list(calls)
        answers(calls)
        self.assertEqual(calls, before)
        self.assertEqual(answers(Watched(calls)), answers(calls))

    def test_nothing_is_kept(self):
        calls = sum(EACH_CALL, [])
        first = answers(calls)
        answers(sum([put("z"), settle(1)], []))
        self.assertEqual(answers(calls), first)
        self.assertEqual(last(find("a")), [-4])
        self.assertEqual(last(came("1")), [-8])
        self.assertEqual(last(counts()), [0, 0, 0, 0, 0, 0, 0])
        self.assertEqual(last(save()), [0] + book())

    def test_what_is_given_back_is_new_each_time(self):
        calls = sum(EACH_CALL, [])
        first = answers(calls)
        copy = list(first)
        first.clear()
        self.assertEqual(answers(calls), copy)

    def test_prints_nothing(self):
        out, err = io.StringIO(), io.StringIO()
        with contextlib.redirect_stdout(out), contextlib.redirect_stderr(err):
            answers(sum(EACH_CALL, []))
        self.assertEqual((out.getvalue(), err.getvalue()), ("", ""))

    def test_each_call_is_counted(self):
        out = split(answers(sum(EACH_CALL, [])))
        self.assertEqual(out, [
            [0], [1], [2], [1], [0, 2, 2, 0, 0, 0, 0], [1, 0],
            told(1, 0, [], ("a", "1", [])), [1, 0],
            told(1, 1, [(0, GOOD)], ("c", "", ["v"])),
            told(0, 2, [(2, 2), (1, STUCK)]),
            [0], [2], told(2, 0), [-1], [-8],
            [-4], [0, 50, 50], [0, 1, 97, 1, 99], [1, 1], [0, 0, 0], [0, 2, 2, 0, 0, 0, 2],
            [0] + book(cell(0, "a", "1", [], 0, 1, ran("1", value="v")), cell(1, "b", "22", ["a", "c"])),
            [0], [-2],
            [0, 122, 122], [0, 49], [0, 1, 113], [0], [1, 0, 0], [0, 2, 0, 1, 0, 1, 0],
            [0] + book(cell(5, "a", "1", ["q"], 3), cell(7, "z", "", [], 1, 0, ran(value="zz"))), [-2], [-2],
        ])

    def test_zero_bytes_in_texts_and_values(self):
        out = run(put("a", [0, 0]), put("b", [255, 0], ["a"]), settle(2), came([0]), came([]), state(1))
        self.assertEqual(out[2:], [
            told(1, 0, [], ("a", [0, 0], [])),
            told(1, 1, [(0, GOOD)], ("b", [255, 0], [[0]])),
            told(0, 2, [(1, GOOD)]),
            [GOOD, 2, 1, 1, 0, 0, 0],
        ])

    def test_long_chains_need_no_deep_calls(self):
        names = [f"n{number}" for number in range(140)]
        # Each leans on the one behind it, so that what is taken first stands last.
        calls = [put(name, "", names[number + 1:number + 2]) for number, name in enumerate(names)]
        calls += [settle(256)] + [came("v")] * 140 + [touch(names[-1]), drop(names[-1]), settle(0)]
        limit = sys.getrecursionlimit()
        sys.setrecursionlimit(depth() + 40)
        try:
            out = answers(sum(calls, []))
        finally:
            sys.setrecursionlimit(limit)
        self.assertEqual(split(out)[-1], told(0, 0, [(place, STUCK) for place in range(138, -1, -1)]))

    def test_long_chains_in_loaded_books_need_no_deep_calls(self):
        names = [f"n{number}" for number in range(256)]
        good = [cell(place, name, "", names[place + 1:place + 2], GOOD, 0,
                     ran("", names[place + 1:place + 2], ["v"] * len(names[place + 1:place + 2]), "v"))
                for place, name in enumerate(names)]
        ring = [cell(place, name, "", [names[place - 1]], STUCK) for place, name in enumerate(names)]
        chain = [cell(place, name, "", (names + ["gone"])[place + 1:place + 2], STUCK) for place, name in enumerate(names)]
        calls = [load(book(*good)), save(), drop("n255"), settle(0), why(0), load(book(*ring)), why(0),
                 load(book(*chain)), why(0), why(255), users(0), counts(), save()]
        limit = sys.getrecursionlimit()
        sys.setrecursionlimit(depth() + 40)
        try:
            out = split(answers(sum(calls, [])))
        finally:
            sys.setrecursionlimit(limit)
        self.assertEqual(out[1], [0] + book(*good))
        self.assertEqual(out[4:], [[2, 0, 1], [0], [3, 0, 255], [0], [2, 0, 1], [1, 0, 0], [0],
                                   [0, 256, 0, 0, 0, 256, 0], [0] + book(*chain)])
