"""value, text, leans, users and counts: what is told of cells, and what is refused."""

import unittest

from helper import (
    BAD, GOOD, OPEN, STUCK, ask_next, came, counts, drop, failed, find, last, leans_of, load, put, run, saved, settle,
    state, text_of, touch, users, value, with_length,
)
from rerun.books import answer_call
from rerun.calls import read_call
from rerun.cells import Book

# 0 good, 1 bad, 2 stuck, 3 good with an empty value and an empty text, 4 open.
EACH = [put("good", "g", []), put("bad", "bb", ["good"]), put("stuck", "sss", ["bad", "gone"]), put("empty"),
        settle(9), came("value"), failed(7), came(""), drop("stuck"), put("stuck", "sss", ["bad", "gone"]), settle(0),
        put("open", "oooo", ["good", "good"])]
# The same cells at the same places while the book waits for another.
WAITING = EACH + [put("more", "m", ["open", "stuck"]), settle(1)]


# Behind any calls: the book waits from here on.
WAIT = [put("wait"), touch("wait"), settle(9)]


def leans_told(*names):
    return [0] + sum(map(with_length, names), [])


def bytes_told(text):
    return [0] + list(text.encode())


class OfEachCell(unittest.TestCase):
    def told(self, call, book):
        return run(*book, *[call(place) for place in range(5)])[len(book):]

    def test_cells_stand_so(self):
        for book in (EACH, WAITING):
            self.assertEqual([answer[0] for answer in self.told(state, book)], [GOOD, BAD, STUCK, GOOD, OPEN])
        self.assertEqual(last(*WAITING, ask_next()), [1, 4])

    def test_value(self):
        for book in (EACH, WAITING):
            self.assertEqual(self.told(value, book), [bytes_told("value"), [-4], [-4], [0], [-4]])

    def test_text(self):
        for book in (EACH, WAITING):
            self.assertEqual(self.told(text_of, book),
                             [bytes_told("g"), bytes_told("bb"), bytes_told("sss"), [0], bytes_told("oooo")])

    def test_leans(self):
        for book in (EACH, WAITING):
            self.assertEqual(self.told(leans_of, book),
                             [[0], leans_told("good"), leans_told("bad", "gone"), [0], leans_told("good", "good")])

    def test_users(self):
        self.assertEqual(self.told(users, EACH), [[2, 1, 4], [1, 2], [0], [0], [0]])
        self.assertEqual(self.told(users, WAITING), [[2, 1, 4], [1, 2], [1, 5], [0], [1, 5]])

    def test_places_without_a_cell(self):
        for call in (value, text_of, leans_of, users, state):
            for book in ([], EACH, WAITING, EACH + [drop("open")]):
                self.assertEqual(run(*book, call(6), call(254), call(255), call(256), call(257), call(65535))[len(book):],
                                 [[-3], [-3], [-3], [-1], [-1], [-1]])
            self.assertEqual(last(*EACH, drop("good"), call(0)), [-3])

    def test_place_255(self):
        full = [put(f"n{number}", [number], ["n0"] if number else []) for number in range(256)]
        answers = run(*full, value(255), text_of(255), leans_of(255), users(255), users(0), value(256), users(256))
        self.assertEqual(answers[256:], [[-4], [0, 255], leans_told("n0"), [0], [255, *range(1, 256)], [-1], [-1]])

    def test_asking_changes_nothing(self):
        for book in (EACH, WAITING):
            before = saved(*book)
            asked = [call(place) for call in (value, text_of, leans_of, users) for place in (0, 1, 2, 3, 4, 255, 256)]
            self.assertEqual(saved(*book, *asked, counts()), before)
            self.assertEqual(last(*book, *asked, ask_next()), last(*book, ask_next()))


class Values(unittest.TestCase):
    def test_lengths(self):
        for size in (0, 1, 255, 256, 16384):
            whole = [number % 256 for number in range(size)]
            self.assertEqual(last(put("a"), settle(1), came(whole), value(0)), [0] + whole)
        self.assertEqual(last(put("a"), settle(1), came([1] * 16385), value(0)), [-4])

    def test_goes_and_comes_with_how_it_stands(self):
        good = [put("a", "1"), settle(1), came("v")]
        self.assertEqual(run(*good, touch("a"), value(0), settle(1), value(0), came("w"), value(0))[-5:],
                         [[-4], [1, 0, 0, 1, 97, 1, 49], [-4], [0, 1, 1, 0, 1], bytes_told("w")])
        self.assertEqual(last(*good, put("a", "1"), value(0)), [-4])
        self.assertEqual(last(*good, put("a", "1"), settle(0), value(0)), bytes_told("v"))
        self.assertEqual(last(*good, put("a", "1", ["a"]), settle(0), value(0)), [-4])

    def test_a_bad_one_after_a_good_one(self):
        self.assertEqual(last(put("a"), settle(1), came("v"), touch("a"), settle(1), failed(3), value(0)), [-4])


class Texts(unittest.TestCase):
    def test_lengths_and_bytes(self):
        for size in (0, 1, 255, 256, 16384, 28000):
            whole = [number * 7 % 256 for number in range(size)]
            self.assertEqual(last(put("a", whole), text_of(0)), [0] + whole)

    def test_the_text_now_and_not_of_the_last_run(self):
        self.assertEqual(last(put("a", "old"), settle(1), came("v"), put("a", "new"), text_of(0)), bytes_told("new"))

    def test_a_refused_put_leaves_it(self):
        self.assertEqual(last(put("a", "old"), put("a", "new", ["A"]), text_of(0)), bytes_told("old"))


class Asked(unittest.TestCase):
    def check(self, calls, question, answer):
        self.assertEqual(last(*calls, question), answer)
        self.assertEqual(run(*calls, *WAIT, question, settle(0))[-2:], [answer, [-8]])


class Leans(Asked):
    def test_none_and_eight_in_order(self):
        names = ["h", "g", "a", "zz", "a" * 32, "h", "b_9", "c"]
        for many in range(9):
            self.check([put("a", "", names[:many])], leans_of(0), leans_told(*names[:many]))

    def test_one_twice_its_own_and_one_without_a_cell(self):
        self.check([put("a", "", ["b", "a", "b"])], leans_of(0), leans_told("b", "a", "b"))
        self.check([put("a", "", ["a"]), settle(0)], leans_of(0), leans_told("a"))

    def test_the_names_now_and_not_of_the_last_run(self):
        calls = [put("a"), put("b", "", ["a"]), settle(2), came("A"), came("B"), put("b", "", ["c", "a"])]
        self.check(calls, leans_of(1), leans_told("c", "a"))

    def test_a_refused_put_leaves_them(self):
        self.check([put("a", "", ["b"]), put("a", "", ["c"] * 9)], leans_of(0), leans_told("b"))


class Users(Asked):
    def test_none(self):
        self.check([put("a"), put("b")], users(0), [0])

    def test_twice_on_it_is_told_once(self):
        self.check([put("a"), put("b", "", ["a", "c", "a"])], users(0), [1, 1])

    def test_itself(self):
        self.check([put("a", "", ["a"])], users(0), [1, 0])
        self.check([put("b", "", ["a"]), put("a", "", ["a", "a"]), settle(0)], users(1), [2, 0, 1])

    def test_rising_though_put_otherwise(self):
        calls = [put("a"), put("x"), put("y", "", ["a"]), put("z", "", ["a"]), drop("x"), put("w", "", ["a"])]
        self.check(calls, users(0), [3, 1, 2, 3])

    def test_only_those_that_lean_on_it_themselves(self):
        self.check([put("a"), put("b", "", ["a"]), put("c", "", ["b"])], users(0), [1, 1])

    def test_after_a_change(self):
        calls = [put("a"), put("b", "", ["a"]), put("c", "", ["a"])]
        self.check([*calls, put("b")], users(0), [1, 2])
        self.check([*calls, drop("c")], users(0), [1, 1])
        self.check([*calls, drop("a"), put("a")], users(0), [2, 1, 2])

    def test_a_last_run_is_no_leaning(self):
        calls = [put("a"), put("b", "", ["a"]), settle(2), came(""), came(""), put("b")]
        self.check(calls, users(0), [0])


class Counts(unittest.TestCase):
    def test_new_book(self):
        self.assertEqual(last(counts()), [0, 0, 0, 0, 0, 0, 0])

    def test_each_number(self):
        calls = [put("a"), put("b"), put("c", "", ["a"]), put("d", "", ["b"]), put("e", "", ["e"]), put("f", "", ["d"]),
                 settle(9), came("1"), failed(1), came("2"), put("g"), put("h"), put("i"), put("j")]
        self.assertEqual(last(*calls, counts()), [0, 10, 4, 2, 1, 3, 3])

    def test_step_by_step(self):
        calls = [put("a"), counts(), put("b", "", ["a"]), counts(), settle(2), counts(), came("1"), counts(), failed(9),
                 counts(), drop("a"), counts(), settle(0), counts(), drop("b"), counts()]
        self.assertEqual(run(*calls)[1::2], [
            [0, 1, 1, 0, 0, 0, 0], [0, 2, 2, 0, 0, 0, 0], [0, 2, 2, 0, 0, 0, 0], [0, 2, 1, 1, 0, 0, 1],
            [0, 2, 0, 1, 1, 0, 2], [0, 1, 1, 0, 0, 0, 2], [0, 1, 0, 0, 0, 1, 2], [0, 0, 0, 0, 0, 0, 2],
        ])

    def test_full_book(self):
        full = [put(f"n{number}") for number in range(256)]
        self.assertEqual(last(*full, counts()), [0, 256, 256, 0, 0, 0, 0])

    def test_a_refusal_is_no_run(self):
        calls = [put("a"), came("x"), settle(1), failed(0), settle(1), put("b"), find("A"), state(256), counts()]
        self.assertEqual(last(*calls), [0, 1, 1, 0, 0, 0, 0])
        self.assertEqual(last(*calls, failed(2 ** 32), came(""), came(""), counts()), [0, 1, 0, 1, 0, 0, 1])

    def test_a_value_too_long_is_a_run(self):
        self.assertEqual(last(put("a"), settle(1), came([0] * 16385), counts()), [0, 1, 0, 0, 1, 0, 1])

    def test_over_several_settlings_and_none_where_none_is_run(self):
        calls = [put("a"), settle(1), came("1"), put("a"), settle(5), counts(), touch("a"), settle(5), came("1"), counts()]
        self.assertEqual([run(*calls)[place] for place in (5, 9)], [[0, 1, 0, 1, 0, 0, 1], [0, 1, 0, 1, 0, 0, 2]])

    def test_after_load(self):
        calls = [put("a"), put("b"), settle(1), came("1")]
        self.assertEqual(last(*calls, counts()), [0, 2, 1, 1, 0, 0, 1])
        loaded = calls + [load(saved(*calls))]
        self.assertEqual(last(*loaded, counts()), [0, 2, 1, 1, 0, 0, 0])
        self.assertEqual(last(*loaded, settle(1), failed(4), counts()), [0, 2, 0, 1, 1, 0, 1])
        self.assertEqual(last(*calls, load([]), counts()), [0, 2, 1, 1, 0, 0, 1])

    def test_modulo(self):
        made = Book()
        for runs in (2 ** 64 - 1, 2 ** 64, 2 ** 64 + 3):
            made.runs = runs
            self.assertEqual(answer_call(made, read_call(counts(), 0))[-1], runs % 2 ** 64)
