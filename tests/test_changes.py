"""put, drop, touch and find: names, places, what is opened."""

import unittest

from helper import (
    BAD, GOOD, OPEN, STUCK, ask_next, came, drop, failed, find, last, put, run, settle, state, told, touch,
)

LETTERS = list(range(97, 123))
LATER = LETTERS + list(range(48, 58)) + [95]
GOOD_NAMES = ["a", "z", "a0", "z9", "a_", "b" * 32, "a" + "_" * 31, "abcdefghijklmnopqrstuvwxyz_01234", "k56789"]
WRONG_NAMES = ["", "b" * 33, "b" * 40, "A", "aB", "_", "_a", "0", "9a", "a-", "a b", " a", "a ", "a.", "a\n", "{", "`",
               [97, 0], [0], [97, 255], [97, 58], [97, 47], [97, 94], [97, 96], [97, 123], [96], [123]]


def stands(calls, places):
    return [answer[0] for answer in run(*calls, *[state(place) for place in places])[len(calls):]]


# a and b good, c (on b) good, d (on a name without a cell) stuck, e bad.
BASE = [put("a", "1"), put("b", "2", ["a"]), put("c", "3", ["b"]), put("d", "4", ["gone"]), put("e", "5"),
        settle(9), came("A"), came("B"), came("C"), failed(6)]


class Names(unittest.TestCase):
    def test_good_names(self):
        for name in GOOD_NAMES:
            with self.subTest(name=name):
                self.assertEqual(run(put(name), find(name), touch(name), drop(name), find(name), touch(name), drop(name)),
                                 [[0], [0], [0], [0], [-4], [-4], [-4]])
                self.assertEqual(last(put("a", "", [name])), [0])

    def test_wrong_names(self):
        for name in WRONG_NAMES:
            with self.subTest(name=name):
                self.assertEqual(run(put(name), find(name), touch(name), drop(name)), [[-1]] * 4)
                self.assertEqual(last(put("a", "", [name])), [-1])
                self.assertEqual(last(put("a", "", ["b", "c", name])), [-1])

    def test_every_first_and_later_byte(self):
        for byte in range(256):
            with self.subTest(byte=byte):
                self.assertEqual(last(put([byte])), [0 if byte in LETTERS else -1])
                self.assertEqual(last(put([byte, 97])), [0 if byte in LETTERS else -1])
                self.assertEqual(last(put([97, byte])), [0 if byte in LATER else -1])
                self.assertEqual(last(put([97, 97, byte, 97])), [0 if byte in LATER else -1])
                self.assertEqual(last(put("b", "", [[97, byte]])), [0 if byte in LATER else -1])
                self.assertEqual(last(find([byte])), [-4 if byte in LETTERS else -1])

    def test_names_are_told_apart(self):
        self.assertEqual(run(put("a"), put("aa"), put("a_"), put("a0"), find("aa"), find("a_"), find("a")),
                         [[0], [1], [2], [3], [1], [2], [0]])


class Put(unittest.TestCase):
    def test_places_rise(self):
        self.assertEqual(run(put("c"), put("a"), put("b"), put("a"), find("b")), [[0], [1], [2], [1], [2]])

    def test_lengths_of_text(self):
        for size in (0, 1, 28000, 65536):
            self.assertEqual(run(put("a", [9] * size), state(0)), [[0], [OPEN, size, 0, 0, 0, 0, 0]])
        self.assertEqual(run(put("a", [9] * 65537), state(0), find("a")), [[-1], [-3], [-4]])

    def test_how_many_leans(self):
        for many in range(9):
            self.assertEqual(run(put("a", "", ["b"] * many), state(0)), [[0], [OPEN, 0, many, 0, 0, 0, 0]])
        for many in (9, 10):
            self.assertEqual(run(put("a", "", ["b"] * many), state(0)), [[-1], [-3]])

    def test_new_cell_is_open_without_last_run(self):
        self.assertEqual(run(put("a", "xyz", ["b", "a"]), state(0))[1], [OPEN, 3, 2, 0, 0, 0, 0])

    def test_full_book(self):
        full = [put(f"n{number}") for number in range(256)]
        out = run(*full, put("more"), find("more"), put("n255", "t"), state(255), put("n0", "tt"), state(0))
        self.assertEqual(out, [[place] for place in range(256)]
                         + [[-6], [-4], [255], [OPEN, 1, 0, 0, 0, 0, 0], [0], [OPEN, 2, 0, 0, 0, 0, 0]])

    def test_lowest_free_place(self):
        full = [put(f"n{number}") for number in range(256)]
        out = run(*full, drop("n200"), drop("n7"), drop("n90"), put("x"), put("y"), put("z"), put("zz"),
                  find("x"), find("y"), find("z"), find("n255"), drop("n0"), put("n7"))[256:]
        self.assertEqual(out, [[200], [7], [90], [7], [90], [200], [-6], [7], [90], [200], [255], [0], [0]])

    def test_opens_all_that_lean_on_it_and_no_other(self):
        self.assertEqual(stands(BASE, range(5)), [GOOD, GOOD, GOOD, STUCK, BAD])
        self.assertEqual(stands(BASE + [put("a", "9")], range(5)), [OPEN, OPEN, OPEN, STUCK, BAD])
        self.assertEqual(stands(BASE + [put("b", "9")], range(5)), [GOOD, OPEN, OPEN, STUCK, BAD])
        self.assertEqual(stands(BASE + [put("c", "3", ["b"])], range(5)), [GOOD, GOOD, OPEN, STUCK, BAD])
        self.assertEqual(stands(BASE + [put("d", "4", ["a"])], range(5)), [GOOD, GOOD, GOOD, OPEN, BAD])
        self.assertEqual(stands(BASE + [put("e")], range(5)), [GOOD, GOOD, GOOD, STUCK, OPEN])

    def test_new_cell_opens_those_that_lean_on_its_name(self):
        calls = BASE + [put("f", "", ["d"]), settle(0), put("gone")]
        self.assertEqual(stands(calls, range(7)), [GOOD, GOOD, GOOD, OPEN, BAD, OPEN, OPEN])

    def test_last_run_and_touched_stay(self):
        self.assertEqual(last(*BASE, put("b", "22", ["a", "a"]), state(1)), [OPEN, 2, 2, 1, 0, 0, 0])
        self.assertEqual(last(*BASE, touch("b"), put("b"), state(1)), [OPEN, 0, 0, 1, 1, 0, 0])
        self.assertEqual(last(*BASE, put("e", "55"), state(4)), [OPEN, 2, 0, 1, 0, 0, 0])

    def test_opens_round_a_ring(self):
        ring = [put("a", "", ["c"]), put("b", "", ["a"]), put("c", "", ["b"]), put("d", "", ["d"]), settle(0)]
        self.assertEqual(stands(ring, range(4)), [STUCK] * 4)
        self.assertEqual(stands(ring + [put("b", "", ["a"])], range(4)), [OPEN, OPEN, OPEN, STUCK])
        self.assertEqual(stands(ring + [touch("d")], range(4)), [STUCK, STUCK, STUCK, OPEN])


class Drop(unittest.TestCase):
    def test_cell_is_gone(self):
        self.assertEqual(run(*BASE, drop("b"), find("b"), state(1), drop("b"), find("c"))[len(BASE):],
                         [[1], [-4], [-3], [-4], [2]])

    def test_opens_those_that_leaned_on_it(self):
        calls = BASE + [drop("a")]
        self.assertEqual(stands(calls, [1, 2, 3, 4]), [OPEN, OPEN, STUCK, BAD])
        self.assertEqual(last(*calls, settle(0)), told(0, 0, [(1, STUCK), (2, STUCK)]))
        self.assertEqual(stands(BASE + [drop("c")], [0, 1, 3, 4]), [GOOD, GOOD, STUCK, BAD])

    def test_dropped_and_put_again_is_new(self):
        calls = BASE + [touch("a"), drop("a"), put("a", "1")]
        self.assertEqual(last(*calls, state(0)), [OPEN, 1, 0, 0, 0, 0, 0])
        self.assertEqual(last(*calls, settle(9)), told(1, 0, [], ("a", "1", [])))

    def test_cell_that_leans_on_itself(self):
        self.assertEqual(run(put("a", "", ["a"]), settle(0), drop("a"), ask_next(), put("b"), ask_next()),
                         [[0], told(0, 0, [(0, STUCK)]), [0], [0, 0], [0], [1, 0]])


class Touch(unittest.TestCase):
    def test_touched_and_opened(self):
        calls = BASE + [touch("b")]
        self.assertEqual(run(*calls)[-1], [1])
        self.assertEqual(stands(calls, range(5)), [GOOD, OPEN, OPEN, STUCK, BAD])
        self.assertEqual(last(*calls, state(1)), [OPEN, 1, 1, 1, 1, 0, 0])
        self.assertEqual(last(*calls, state(2)), [OPEN, 1, 1, 1, 0, 0, 0])
        self.assertEqual(last(*calls, touch("b"), state(1)), [OPEN, 1, 1, 1, 1, 0, 0])

    def test_touched_bad_cell_is_run_again(self):
        self.assertEqual(run(*BASE, touch("e"), settle(9), came("x"), state(4))[len(BASE):],
                         [[4], told(1, 0, [], ("e", "5", [])), told(0, 1, [(4, GOOD)]), [GOOD, 1, 0, 1, 0, 1, 0]])

    def test_touched_cell_without_last_run(self):
        self.assertEqual(run(put("a"), touch("a"), state(0), settle(1), came(""), state(0))[2:],
                         [[OPEN, 0, 0, 0, 1, 0, 0], told(1, 0, [], ("a", "", [])), told(0, 1, [(0, GOOD)]),
                          [GOOD, 0, 0, 1, 0, 0, 0]])


class Find(unittest.TestCase):
    def test_while_it_waits(self):
        self.assertEqual(run(put("a"), put("b"), settle(1), find("b"), find("c"), find("C"))[3:], [[1], [-4], [-1]])

    def test_finding_changes_nothing(self):
        self.assertEqual(run(*BASE, find("a"), ask_next())[-2:], [[0], [0, 0]])
