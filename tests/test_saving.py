"""save: a book's bytes, number by number."""

import unittest

from helper import (
    BAD, GOOD, OPEN, STUCK, TOP_NUMBER, ask_next, book, came, cell, counts, drop, failed, last, put, ran, run, save,
    saved, settle, state, touch,
)


class Save(unittest.TestCase):
    def test_empty_book(self):
        self.assertEqual(last(save()), [0, 76, 87, 75, 49, 0, 0])
        self.assertEqual(saved(put("a"), drop("a")), [76, 87, 75, 49, 0, 0])

    def test_written_out(self):
        calls = [put("b", "x"), put("a", "yz", ["b", "q_1"]), settle(1), came("V")]
        self.assertEqual(last(*calls, save()), [
            0, 76, 87, 75, 49, 2, 0,
            0, 1, 98, 1, 0, 0, 0, 120, 0, 1, 0, 1, 1, 0, 0, 0, 120, 0, 0, 1, 0, 0, 0, 86,
            1, 1, 97, 2, 0, 0, 0, 121, 122, 2, 1, 98, 3, 113, 95, 49, 3, 0, 0,
        ])

    def test_open_without_last_run(self):
        self.assertEqual(saved(put("a", "text", ["b", "a", "b"])), book(cell(0, "a", "text", ["b", "a", "b"])))

    def test_good_and_bad(self):
        calls = [put("a", "1"), put("b", "2", ["a", "a"]), put("c", "3", ["b", "a"]), settle(9), came("A"), came("BB"),
                 failed(0x01020304)]
        self.assertEqual(saved(*calls), book(
            cell(0, "a", "1", [], GOOD, 0, ran("1", [], [], "A")),
            cell(1, "b", "2", ["a", "a"], GOOD, 0, ran("2", ["a", "a"], ["A", "A"], "BB")),
            cell(2, "c", "3", ["b", "a"], BAD, 0, ran("3", ["b", "a"], ["BB", "A"], number=0x01020304)),
        ))
        self.assertEqual(saved(*calls)[-5:], [1, 4, 3, 2, 1])

    def test_numbers_that_came(self):
        for number in (1, 255, 256, 65536, 2 ** 31, TOP_NUMBER):
            self.assertEqual(saved(put("a"), settle(1), failed(number)),
                             book(cell(0, "a", "", [], BAD, 0, ran(number=number))))
        self.assertEqual(saved(put("a"), settle(1), came([0] * 16385))[-5:], [1, 255, 255, 255, 255])

    def test_stuck(self):
        self.assertEqual(saved(put("a", "", ["gone"]), put("b", "t", ["b"]), settle(0)),
                         book(cell(0, "a", "", ["gone"], STUCK), cell(1, "b", "t", ["b"], STUCK)))

    def test_last_run_with_other_text_names_and_values_than_now(self):
        calls = [put("a", "1"), put("b", "2", ["a"]), settle(2), came("A"), came("B"), put("a", "11"),
                 put("b", "22", ["c", "a"])]
        self.assertEqual(saved(*calls), book(
            cell(0, "a", "11", [], OPEN, 0, ran("1", [], [], "A")),
            cell(1, "b", "22", ["c", "a"], OPEN, 0, ran("2", ["a"], ["A"], "B")),
        ))
        self.assertEqual(saved(*calls, settle(1), came("AAA")), book(
            cell(0, "a", "11", [], GOOD, 0, ran("11", [], [], "AAA")),
            cell(1, "b", "22", ["c", "a"], STUCK, 0, ran("2", ["a"], ["A"], "B")),
        ))

    def test_touched(self):
        calls = [put("a"), touch("a"), put("b", "", ["gone"]), touch("b"), settle(0), put("c"), settle(2), came("A"),
                 failed(6), touch("c")]
        self.assertEqual(saved(*calls), book(
            cell(0, "a", "", [], GOOD, 0, ran(value="A")),
            cell(1, "b", "", ["gone"], STUCK, 1),
            cell(2, "c", "", [], OPEN, 1, ran(number=6)),
        ))
        self.assertEqual(saved(*calls[:2]), book(cell(0, "a", touched=1)))

    def test_places_with_gaps(self):
        calls = [put("a"), put("b"), put("c"), put("d"), drop("a"), drop("c")]
        self.assertEqual(saved(*calls), book(cell(1, "b"), cell(3, "d")))
        self.assertEqual(saved(*calls, put("z")), book(cell(0, "z"), cell(1, "b"), cell(3, "d")))

    def test_full_book(self):
        names = [f"n{number}" for number in range(256)]
        full = [put(name, [place]) for place, name in enumerate(names)]
        expected = book(*[cell(place, name, [place]) for place, name in enumerate(names)])
        self.assertEqual(expected[4:6], [0, 1])
        self.assertEqual(saved(*full), expected)

    def test_lengths_of_texts_and_values(self):
        for size in (0, 1, 255, 256, 16384):
            whole = [number * 3 % 256 for number in range(size)]
            calls = [put("a", whole), put("b", "", ["a"]), settle(2), came(whole[::-1]), came(whole)]
            self.assertEqual(saved(*calls), book(
                cell(0, "a", whole, [], GOOD, 0, ran(whole, [], [], whole[::-1])),
                cell(1, "b", "", ["a"], GOOD, 0, ran("", ["a"], [whole[::-1]], whole)),
            ))
        self.assertEqual(saved(put("a", [5] * 65536))[9:14], [0, 0, 1, 0, 5])

    def test_names_of_every_length_and_eight_of_them(self):
        names = ["n" * size for size in (1, 2, 31, 32)] * 2
        self.assertEqual(saved(put("b" * 32, "", names)), book(cell(0, "b" * 32, "", names)))

    def test_while_it_waits(self):
        calls = [put("a", "1"), put("b", "2", ["a"]), touch("b"), settle(9)]
        self.assertEqual(saved(*calls), book(cell(0, "a", "1"), cell(1, "b", "2", ["a"], OPEN, 1)))
        self.assertEqual(saved(*calls, came("A")), book(
            cell(0, "a", "1", [], GOOD, 0, ran("1", [], [], "A")), cell(1, "b", "2", ["a"], OPEN, 1)))
        again = calls + [came("A"), came("B"), touch("b"), settle(1)]
        self.assertEqual(saved(*again), book(
            cell(0, "a", "1", [], GOOD, 0, ran("1", [], [], "A")),
            cell(1, "b", "2", ["a"], OPEN, 1, ran("2", ["a"], ["A"], "B"))))

    def test_what_was_taken_before_the_step_that_waits_is_in_it(self):
        calls = [put("a", "", ["gone"]), put("b")]
        self.assertEqual(saved(*calls, settle(1)), book(cell(0, "a", "", ["gone"], STUCK), cell(1, "b")))
        self.assertEqual(saved(*calls, settle(0)), saved(*calls, settle(1)))

    def test_saving_changes_nothing(self):
        calls = [put("a", "1"), put("b", "2", ["a"]), settle(9), came("A")]
        after = [ask_next(), state(0), state(1), counts(), came("B"), counts(), save()]
        self.assertEqual(run(*calls, save(), save(), *after)[6:], run(*calls, *after)[4:])

    def test_names_and_order_of_putting_leave_no_trace(self):
        self.assertEqual(saved(put("a"), put("b"), put("a", "t")), saved(put("a", "t"), put("b")))
        self.assertEqual(saved(put("x"), put("b"), drop("x"), put("a")), saved(put("a"), put("b")))
