"""That every refusal is its number alone, comes in its order, and leaves the book as it was."""

import unittest

from helper import (
    OPEN, ask_next, book, came, cell, counts, drop, failed, find, last, leans_of, load, put, run, save, settle, state,
    text_of, told, touch, users, value, why,
)

SMALL = [put("a", "1"), put("b", "2", ["a"]), put("c", "3", ["gone"]), put("d", "4", ["d"])]
SETTLED = SMALL + [settle(9), came("A"), failed(8)]
WAITING = SMALL + [settle(1)]
STOPPED = SMALL + [settle(1), came("A")]
FULL = [put(f"n{number}") for number in range(256)]
FULL_WAITING = FULL + [settle(3)]

WRONG = ["", "A", "n" * 33]

# What is told of a book: all of its places that matter, its names, and how it goes on.
LOOK = [ask_next(), counts(), save()] + [state(place) for place in (0, 1, 2, 3, 4, 255)] + [find("a"), find("new")]
GO_ON = LOOK + [came("w"), came("w"), settle(2), came("u"), failed(4)] + LOOK


class Refusals(unittest.TestCase):
    def refused(self, made, call, number):
        """The answer is that number alone, and all that follows is as if the call had not been made."""
        out = run(*made, call, *GO_ON)
        self.assertEqual(out.pop(len(made)), [number])
        self.assertEqual(out, run(*made, *GO_ON))

    def test_while_it_waits(self):
        for made in (WAITING, FULL_WAITING):
            for call in (put("a", "9"), put("new"), put("n0", "9"), drop("a"), drop("n0"), touch("a"), touch("n0"),
                         settle(0), settle(9), load(book()), load(book(cell(0, "a"))), load([]), load(book() + [0])):
                with self.subTest(call=call):
                    self.refused(made, call, -8)

    def test_while_it_waits_comes_before_all_others(self):
        for made in (WAITING, FULL_WAITING):
            for name in WRONG + ["absent"]:
                for call in (put(name), put("a", "", [name] * 9), drop(name), touch(name)):
                    with self.subTest(call=call):
                        self.refused(made, call, -8)

    def test_came_while_it_does_not_wait(self):
        for made in ([], SMALL, SETTLED, STOPPED, FULL):
            for call in (came(""), came([1] * 20000), failed(1), failed(0), failed(2 ** 32)):
                with self.subTest(call=call[:5]):
                    self.refused(made, call, -8)

    def test_wrong_number(self):
        for number in (0, 2 ** 32, 2 ** 33 - 1):
            self.refused(WAITING, failed(number), -1)

    def test_wrong_names(self):
        for made in ([], SMALL, SETTLED, STOPPED, FULL):
            for name in WRONG:
                for call in (put(name, "t"), put("a", "t", [name]), put("new", "t", ["a", name]),
                             drop(name), touch(name), find(name)):
                    with self.subTest(call=call):
                        self.refused(made, call, -1)

    def test_too_many_leans(self):
        for made in ([], SMALL, SETTLED, STOPPED, FULL):
            for many in (9, 10):
                self.refused(made, put("a", "t", ["a"] * many), -1)
                self.refused(made, put("n0", "t", ["a"] * many), -1)

    def test_text_too_long(self):
        for made in ([], SETTLED, FULL):
            self.refused(made, put("a", [1] * 65537), -1)

    def test_no_such_cell(self):
        for made in ([], SMALL, SETTLED, STOPPED, FULL):
            for name in ("gone", "absent", "aa"):
                for call in (drop(name), touch(name), find(name)):
                    with self.subTest(call=call):
                        self.refused(made, call, -4)

    def test_all_taken(self):
        self.refused(FULL, put("a"), -6)
        self.refused(FULL, put("b", "t", ["n0", "a"]), -6)
        self.refused(FULL + [put("n9", "", ["more"]), settle(0)], put("more"), -6)

    def test_wrong_comes_before_all_taken(self):
        self.refused(FULL, put("A"), -1)
        self.refused(FULL, put("a", "", ["A"]), -1)
        self.refused(FULL, put("a", "", ["a"] * 9), -1)

    def test_places(self):
        for made in ([], SETTLED, WAITING):
            for ask in (state, value, text_of, leans_of, users, why):
                self.refused(made, ask(256), -1)
                self.refused(made, ask(65535), -1)
                self.refused(made, ask(255), -3)
                self.refused(made, ask(4), -3)
        self.assertEqual(last(*FULL, state(255)), [OPEN, 0, 0, 0, 0, 0, 0])
        for ask in (state, value, text_of, leans_of, users, why):
            self.refused(FULL, ask(256), -1)
            self.refused(FULL + [drop("n255")], ask(255), -3)

    def test_value_of_a_cell_that_is_not_good(self):
        for made, places in ((SMALL, range(4)), (SETTLED, (1, 2, 3)), (WAITING, range(4)), (STOPPED, (1, 2, 3))):
            for place in places:
                self.refused(made, value(place), -4)

    def test_no_book(self):
        for made in ([], SMALL, SETTLED, STOPPED, FULL):
            for written in ([], [76, 87, 75, 49], book() + [0], book(many=1), book(cell(0, "a", "", [], 1)),
                            book(cell(0, "a"), cell(1, "b"), cell(2, "a"))):
                self.refused(made, load(written), -2)

    def test_a_refused_settle_allows_no_more_runs(self):
        self.assertEqual(run(*WAITING, settle(9), came("A"))[-2:], [[-8], told(2, 1, [(0, 1)])])


class Asking(unittest.TestCase):
    def test_asking_leaves_the_book_as_it_was(self):
        for made in ([], SMALL, SETTLED, STOPPED, WAITING):
            for call in (state(0), state(1), find("a"), ask_next(), value(0), text_of(1), leans_of(1), users(0), why(2),
                         counts(), save()):
                with self.subTest(call=call):
                    out = run(*made, call, *GO_ON)
                    out.pop(len(made))
                    self.assertEqual(out, run(*made, *GO_ON))
