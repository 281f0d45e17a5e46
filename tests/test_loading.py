"""load: which bytes are a book's, and the book that they are."""

import unittest

from helper import (
    BAD, GOOD, OPEN, STUCK, TOP_NUMBER, ask_next, book, came, cell, counts, drop, failed, find, is_book, last, leans_of,
    load, low_first, put, ran, run, save, saved, settle, state, text_of, told, touch, users, value, why,
)

EMPTY = book()

# A book of every kind of cell: two good ones, a bad one, stuck ones (a ring too), open ones.
A = cell(0, "a", "1", [], GOOD, 0, ran("1", [], [], "A"))
B = cell(1, "b", "2", ["a", "a"], GOOD, 0, ran("2", ["a", "a"], ["A", "A"], ""))
C = cell(3, "c", "", ["b", "a"], BAD, 0, ran("", ["b", "a"], ["", "A"], number=258))
D = cell(4, "d", "4", ["a", "c"], STUCK, 1, ran("3", ["q"], ["Q"], "D"))
E = cell(6, "e", "5", ["gone"], STUCK)
F = cell(7, "f", "", ["g"], STUCK, 0, ran("7", [], [], number=1))
G = cell(8, "g", "", ["f"], STUCK)
H = cell(9, "h", "9", ["a", "i"], OPEN, 1, ran("9", ["a"], ["AA"], "H"))
J = cell(255, "i", "10", ["h"], OPEN)
CELLS = [A, B, C, D, E, F, G, H, J]
BOOK = book(*CELLS)

BEFORE = [put("a", "x"), put("z", "y", ["a", "gone"]), put("r", "", ["r"]), settle(1), came("old"), touch("a")]
LOOK = [ask_next(), counts(), save()] + [ask(place) for place in (0, 1, 2, 3, 4, 6, 7, 8, 9, 255, 256)
                                          for ask in (state, value, text_of, leans_of, users, why)]
LOOK += [find(name) for name in ("a", "b", "d", "i", "z", "r", "gone", "A")]
GO_ON = LOOK + [settle(1), came("w"), failed(4), settle(2), came("u"), came("v")] + LOOK


class Loading(unittest.TestCase):
    def accept(self, written):
        self.assertTrue(is_book(written))
        self.assertEqual(run(load(written), save()), [[0], [0] + list(written)])

    def refuse(self, written):
        self.assertFalse(is_book(written))
        self.assertEqual(run(load(written), save()), [[-2], [0] + EMPTY])
        out = run(*BEFORE, load(written), *GO_ON)
        self.assertEqual(out.pop(len(BEFORE)), [-2])
        self.assertEqual(out, run(*BEFORE, *GO_ON))


class WhatSaveGave(Loading):
    BOOKS = [
        [],
        [put("a")],
        BEFORE,
        BEFORE + [drop("a"), settle(0)],
        BEFORE + [put("gone"), settle(9), came("1"), failed(5)],
        BEFORE + [settle(1), came("new"), put("b", "", ["a", "r"]), put("c", "", ["a"]), settle(1)],
        [put(f"n{number}", [number], [f"n{number + 1}"]) for number in range(256)] + [settle(0), drop("n7")],
        [put("a", [0] * 1000), put("b", "", ["a"] * 8), settle(2), came([1] * 3000), came("")],
    ]

    def test_saved_again_is_the_same(self):
        for calls in self.BOOKS:
            self.accept(saved(*calls))

    def test_all_is_answered_as_before(self):
        for calls in self.BOOKS:
            out = run(*calls, *LOOK)[len(calls):]
            for before in ([], BEFORE, [put("b", "t")]):
                again = run(*before, load(saved(*calls)), *LOOK)[len(before) + 1:]
                self.assertEqual(again[1], out[1][:6] + [0])
                self.assertEqual(again[:1] + again[2:], out[:1] + out[2:])

    def test_loaded_into_itself(self):
        for calls in self.BOOKS[:5]:
            self.assertEqual(run(*calls, load(saved(*calls)), settle(0), save())[-3:],
                             [[0]] + run(*calls, settle(0), save())[-2:])

    def test_settling_goes_on(self):
        calls = [put("a", "1"), put("b", "2", ["a"]), put("c", "3", ["b"]), settle(2), came("A"), came("B"), touch("a"),
                 put("d", "4", ["c", "gone"])]
        rest = [settle(9), came("A"), came("C"), put("gone"), settle(0), settle(9), came(""), failed(8), save()]
        self.assertEqual(run(load(saved(*calls)), *rest)[1:], run(*calls, *rest)[len(calls):])

    def test_nothing_of_the_book_before_is_left(self):
        self.assertEqual(run(*BEFORE, load(EMPTY), find("a"), counts(), state(0), put("n"), settle(9), save())[-7:], [
            [0], [-4], [0, 0, 0, 0, 0, 0, 0], [-3], [0], told(1, 0, [], ("n", "", [])), [0] + book(cell(0, "n"))])

    def test_places_are_free_again(self):
        self.assertEqual(run(load(BOOK), put("x"), put("y"), put("w"), find("i"), users(0))[1:],
                         [[2], [5], [10], [255], [4, 1, 3, 4, 9]])

    def test_two_loads(self):
        self.assertEqual(run(load(BOOK), load(EMPTY), save(), load(BOOK), load([]), save()),
                         [[0], [0], [0] + EMPTY, [0], [-2], [0] + BOOK])

    def test_a_change_after_loading(self):
        self.assertEqual(run(load(BOOK), put("a", "1"), settle(0), state(0), state(1), state(3), state(4))[2:],
                         [told(0, 0, [(0, GOOD), (1, GOOD), (3, BAD), (4, STUCK), (9, STUCK), (255, STUCK)]),
                          [GOOD, 1, 0, 1, 0, 1, 0], [GOOD, 1, 2, 1, 0, 0, 0], [BAD, 0, 2, 1, 0, 0, 258],
                          [STUCK, 1, 2, 1, 1, 0, 0]])

    def test_while_it_waits(self):
        waiting = [put("a"), put("b"), settle(2)]
        for written in (BOOK, EMPTY, saved(*waiting), [], [76]):
            out = run(*waiting, load(written), *GO_ON)
            self.assertEqual(out.pop(3), [-8])
            self.assertEqual(out, run(*waiting, *GO_ON))
        self.assertEqual(run(*waiting, came(""), load(BOOK))[-1], [-8])
        self.assertEqual(run(*waiting, came(""), came(""), load(BOOK))[-1], [0])

    def test_bytes_saved_while_it_waits(self):
        calls = [put("a", "1"), put("b", "2", ["a"]), settle(9), came("A")]
        self.assertEqual(run(load(saved(*calls)), came("B"), ask_next(), settle(1), came("B"), value(1)), [
            [0], [-8], [1, 1], told(1, 0, [], ("b", "2", ["A"])), told(0, 1, [(1, GOOD)]), [0, 66]])


class ABooksBytes(Loading):
    """Bytes that are a book's, though calls might not have made them so."""

    def test_every_kind_of_cell(self):
        self.accept(BOOK)
        self.assertEqual(last(load(BOOK), counts()), [0, 9, 2, 2, 1, 4, 0])

    def test_open_cells_with_any_last_run(self):
        for touched in (0, 1):
            for last_run in (
                [0], ran(), ran("t"), ran("t", [], [], "v"), ran("u", ["a", "a"], ["x", "y"], "v"), ran(number=TOP_NUMBER),
                ran("", ["a", "never", "q"] + ["z"] * 5, ["1"] * 8, number=1), ran("t", ["q"], [[7] * 16384], [9] * 16384),
            ):
                for leans in ([], ["a"], ["q"], ["gone", "c", "c"]):
                    self.accept(book(A, cell(1, "q", "t", leans, OPEN, touched, last_run)))

    def test_open_cell_whose_last_run_was_so(self):
        written = book(A, cell(1, "q", "t", ["a", "a"], OPEN, 0, ran("t", ["a", "a"], ["A", "A"], "Q")))
        self.assertEqual(run(load(written), ask_next(), settle(0), value(1)),
                         [[0], [2, 1], told(0, 0, [(1, GOOD)]), [0, 81]])
        written = book(cell(1, "q", "t", [], OPEN, 0, ran("t", number=5)))
        self.assertEqual(run(load(written), settle(0), state(1))[1:], [told(0, 0, [(1, BAD)]), [BAD, 1, 0, 1, 0, 0, 5]])
        for last_run in (ran("u", ["a", "a"], ["A", "A"], "Q"), ran("t", ["a"], ["A"], "Q"),
                         ran("t", ["a", "a"], ["A", "B"], "Q"), ran("t", ["a", "b"], ["A", "A"], "Q"), [0]):
            written = book(A, cell(1, "q", "t", ["a", "a"], OPEN, 0, last_run))
            self.assertEqual(run(load(written), ask_next(), settle(1))[1:], [[1, 1], told(1, 0, [], ("q", "t", ["A", "A"]))])

    def test_open_touched_cell_is_run(self):
        written = book(cell(1, "q", "t", [], OPEN, 1, ran("t", [], [], "Q")))
        self.assertEqual(last(load(written), settle(1)), told(1, 0, [], ("q", "t", [])))

    def test_open_cells_in_a_ring(self):
        self.accept(book(cell(2, "q", "", ["q"]), cell(3, "r", "", ["s"]), cell(4, "s", "", ["r", "q"])))

    def test_open_cells_that_lean_on_cells_of_each_kind(self):
        self.accept(book(A, cell(1, "b", "", ["a"], BAD, 0, ran("", ["a"], ["A"], number=1)), cell(2, "s", "", ["b"], STUCK),
                         cell(3, "o", "", ["a", "b", "s", "o", "gone"])))

    def test_stuck_cells_touched_and_with_any_last_run(self):
        for touched in (0, 1):
            for last_run in ([0], ran(), ran("t", ["a"], ["A"], "v"), ran("t", ["gone"], ["x"], number=3)):
                self.accept(book(A, cell(1, "q", "t", ["gone"], STUCK, touched, last_run)))
                self.accept(book(A, cell(1, "q", "t", ["a", "q"], STUCK, touched, last_run)))

    def test_stuck_cells_in_a_ring(self):
        self.accept(book(cell(0, "q", "", ["q"], STUCK)))
        self.accept(book(cell(0, "q", "", ["r"], STUCK), cell(1, "r", "", ["q"], STUCK)))
        three = book(cell(0, "q", "", ["r"], STUCK), cell(1, "r", "", ["s"], STUCK), cell(2, "s", "", ["q"], STUCK))
        self.accept(three)
        self.assertEqual(run(load(three), why(0), why(1), why(2))[1:], [[3, 0, 1], [3, 0, 2], [3, 0, 0]])

    def test_stuck_cell_that_leans_on_a_bad_one(self):
        bad = cell(0, "x", "", [], BAD, 0, ran(number=1))
        written = book(bad, cell(1, "q", "", ["x"], STUCK), cell(2, "r", "", ["q"], STUCK))
        self.accept(written)
        self.assertEqual(run(load(written), why(1), why(2))[1:], [[2, 0, 0], [2, 0, 1]])

    def test_good_and_bad_cells_beside_a_ring_of_stuck_ones(self):
        self.accept(book(A, B, cell(2, "q", "", ["a", "r"], STUCK), cell(3, "r", "", ["q", "b"], STUCK)))

    def test_good_cells_that_lean_on_higher_places(self):
        names = [f"n{number}" for number in range(100)]
        cells = [cell(place, name, "", names[place + 1:place + 2], GOOD, 0,
                      ran("", names[place + 1:place + 2], ["v"] * len(names[place + 1:place + 2]), "v"))
                 for place, name in enumerate(names)]
        self.accept(book(*cells))
        cells[99] = cell(99, "n99", "", ["n50"], GOOD, 0, ran("", ["n50"], ["v"], "v"))
        self.refuse(book(*cells))

    def test_limits_that_are_just_met(self):
        self.accept(book(cell(0, "n" * 32, "", ["m" * 32] * 8, OPEN, 0, ran("", ["k" * 32] * 8, [""] * 8))))
        self.accept(book(cell(255, "z", [1] * 20000)))
        self.accept(book(cell(0, "a", "", [], GOOD, 0, ran(value=[8] * 16384))))
        self.accept(book(cell(0, "a", "", [], BAD, 0, ran(number=1)), cell(1, "b", "", [], BAD, 0, ran(number=TOP_NUMBER))))
        self.accept(book(cell(0, "a", [3] * 65536)))
        self.accept(book(cell(0, "a", "", [], OPEN, 0, ran([4] * 65536))))

    def test_full_book(self):
        full = [cell(place, f"n{place}", "", ["n0"]) for place in range(256)]
        self.accept(book(*full))
        good = [cell(place, f"n{place}", "", [], GOOD, 0, ran()) for place in range(256)]
        self.accept(book(*good))
        self.assertEqual(run(load(book(*good)), put("more"), put("n255", "t"), settle(1), came("x"), value(255))[1:],
                         [[-6], [255], told(1, 0, [], ("n255", "t", [])), told(0, 1, [(255, GOOD)]), [0, 120]])


class WrongForm(Loading):
    def test_first_four_bytes(self):
        for written in (EMPTY, BOOK):
            for at in range(4):
                for byte in (0, written[at] - 1, written[at] + 1, 255):
                    self.refuse(written[:at] + [byte] + written[at + 1:])

    def test_cut_short_at_every_place(self):
        for end in range(len(BOOK)):
            self.refuse(BOOK[:end])

    def test_bytes_behind_the_end(self):
        for written in (EMPTY, BOOK):
            for more in ([0], [1], [76], A, [0] * 100, written):
                self.refuse(written + more)

    def test_number_of_cells(self):
        for many in (0, 1, 8, 10, 11, 255, 256, 257, 9 + 256, 65535):
            self.refuse(book(*CELLS, many=many))
        self.refuse(book(many=1))
        self.refuse(book(many=256))
        self.refuse(book(many=65535))

    def test_more_than_256_cells(self):
        full = [cell(place, f"n{place}") for place in range(256)]
        for place in (0, 255):
            self.refuse(book(*full, cell(place, "more")))

    def test_places_that_do_not_rise(self):
        a, b, c = cell(3, "a"), cell(4, "b"), cell(9, "c")
        self.accept(book(a, b, c))
        self.refuse(book(a, cell(3, "b"), c))
        self.refuse(book(a, cell(2, "b"), c))
        self.refuse(book(a, c, b))
        self.refuse(book(c, a))
        self.refuse(book(a, b, cell(0, "c")))
        self.refuse(book(cell(0, "a"), cell(0, "b")))
        self.refuse(book(cell(255, "a"), cell(255, "b")))
        self.refuse(book(cell(255, "a"), cell(0, "b")))

    def test_two_names_alike(self):
        self.refuse(book(cell(0, "a"), cell(1, "a")))
        self.refuse(book(cell(0, "a"), cell(1, "b", "t"), cell(2, "a", "u")))
        self.refuse(book(A, cell(1, "a", "1", [], GOOD, 0, ran("1", [], [], "A"))))

    def test_names(self):
        wrong = ["", "n" * 33, "n" * 255, "A", "_a", "0a", "aB", "a-", "a ", [97, 0], [97, 255], [96], [123], [97, 96]]
        for name in wrong:
            self.refuse(book(cell(0, name)))
            self.refuse(book(cell(0, "a", "", [name])))
            self.refuse(book(cell(0, "a", "", ["b", "c", name, "d"])))
            self.refuse(book(cell(0, "a", "", [], OPEN, 0, ran("", [name], ["v"]))))
            self.refuse(book(cell(0, "a", "", ["b"], STUCK, 0, ran("", ["b", name], ["v", "v"]))))

    def test_how_many_names(self):
        for many in (9, 10, 255):
            self.refuse(book(cell(0, "a", "", ["b"] * many)))
            self.refuse(book(cell(0, "a", "", [], OPEN, 0, ran("", ["b"] * many, [""] * many))))

    def test_lengths_of_texts(self):
        for size in (65537, 65538):
            self.refuse(book(cell(0, "a", [1] * size)))
            self.refuse(book(cell(0, "a", "", [], OPEN, 0, ran([1] * size))))
        for length in (65537, 2 ** 24, 2 ** 31, TOP_NUMBER):
            self.refuse(EMPTY[:4] + [1, 0, 0, 1, 97] + low_first(length, 4) + [0] * 50)
            self.refuse(EMPTY[:4] + [1, 0, 0, 1, 97, 0, 0, 0, 0, 0, 0, 0, 1] + low_first(length, 4) + [0] * 50)

    def test_lengths_of_values(self):
        for size in (16385, 16386, 20000):
            self.refuse(book(cell(0, "a", "", [], OPEN, 0, ran("", ["b"], [[1] * size]))))
            self.refuse(book(cell(0, "a", "", [], OPEN, 0, ran("", ["b", "c"], ["", [1] * size]))))
            self.refuse(book(cell(0, "a", "", [], OPEN, 0, ran(value=[1] * size))))
            self.refuse(book(cell(0, "a", "", [], GOOD, 0, ran(value=[1] * size))))
        for length in (16385, 2 ** 24, TOP_NUMBER):
            start = EMPTY[:4] + [1, 0, 0, 1, 97, 0, 0, 0, 0, 0, 0, 0, 1, 0, 0, 0, 0]
            self.refuse(start + [0, 0] + low_first(length, 4) + [0] * 50)
            self.refuse(start + [1, 1, 98] + low_first(length, 4) + [0] * 50)

    def test_how_it_stands(self):
        for stands in (4, 5, 128, 255):
            self.refuse(book(cell(0, "a", "", [], stands)))
            self.refuse(book(cell(0, "a", "", ["gone"], stands, 0, ran())))

    def test_touched(self):
        for touched in (2, 3, 255):
            self.refuse(book(cell(0, "a", touched=touched)))
            self.refuse(book(cell(0, "a", "", ["gone"], STUCK, touched)))

    def test_last_run_mark(self):
        for mark in (2, 3, 255):
            self.refuse(book(cell(0, "a", last=[mark])))
            self.refuse(book(cell(0, "a", last=[mark] + ran()[1:])))

    def test_what_came_mark(self):
        for mark in (2, 3, 255):
            self.refuse(book(cell(0, "a", last=ran()[:-5] + [mark, 0, 0, 0, 0])))
            self.refuse(book(cell(0, "a", last=ran(number=1)[:-5] + [mark, 1, 0, 0, 0])))

    def test_number_that_came(self):
        self.refuse(book(cell(0, "a", last=ran(number=0))))
        self.refuse(book(cell(0, "a", "", [], BAD, 0, ran(number=0))))
        self.refuse(book(cell(0, "a", "", ["gone"], STUCK, 0, ran(number=0))))
        for number in (1, 256, 2 ** 24):
            self.accept(book(cell(0, "a", "", [], BAD, 0, ran(number=number))))


class WrongStanding(Loading):
    def test_good_cell(self):
        self.accept(book(A, cell(1, "q", "t", ["a"], GOOD, 0, ran("t", ["a"], ["A"], "v"))))
        self.refuse(book(A, cell(1, "q", "t", ["a"], GOOD)))
        self.refuse(book(A, cell(1, "q", "t", ["a"], GOOD, 0, ran("u", ["a"], ["A"], "v"))))
        self.refuse(book(A, cell(1, "q", "t", ["a"], GOOD, 0, ran("t", ["a", "a"], ["A", "A"], "v"))))
        self.refuse(book(A, cell(1, "q", "t", ["a"], GOOD, 0, ran("t", [], [], "v"))))
        self.refuse(book(A, cell(1, "q", "t", ["a"], GOOD, 0, ran("t", ["b"], ["A"], "v"))))
        self.refuse(book(A, cell(1, "q", "t", ["a"], GOOD, 0, ran("t", ["a"], ["A"], number=1))))
        self.refuse(book(A, cell(1, "q", "t", ["a"], GOOD, 1, ran("t", ["a"], ["A"], "v"))))

    def test_bad_cell(self):
        self.accept(book(A, cell(1, "q", "t", ["a"], BAD, 0, ran("t", ["a"], ["A"], number=1))))
        self.refuse(book(A, cell(1, "q", "t", ["a"], BAD)))
        self.refuse(book(A, cell(1, "q", "t", ["a"], BAD, 0, ran("u", ["a"], ["A"], number=1))))
        self.refuse(book(A, cell(1, "q", "t", ["a"], BAD, 0, ran("t", ["a", "a"], ["A", "A"], number=1))))
        self.refuse(book(A, cell(1, "q", "t", ["a"], BAD, 0, ran("t", [], [], number=1))))
        self.refuse(book(A, cell(1, "q", "t", ["a"], BAD, 0, ran("t", ["a"], ["A"], "v"))))
        self.refuse(book(A, cell(1, "q", "t", ["a"], BAD, 0, ran("t", ["a"], ["A"], ""))))
        self.refuse(book(A, cell(1, "q", "t", ["a"], BAD, 1, ran("t", ["a"], ["A"], number=1))))

    def test_names_in_another_order(self):
        two = [A, cell(1, "b", "", [], GOOD, 0, ran(value="A"))]
        for stands, number in ((GOOD, None), (BAD, 4)):
            self.accept(book(*two, cell(2, "q", "", ["a", "b"], stands, 0, ran("", ["a", "b"], ["A", "A"], number=number))))
            self.refuse(book(*two, cell(2, "q", "", ["a", "b"], stands, 0, ran("", ["b", "a"], ["A", "A"], number=number))))

    def test_not_open_but_leans_on_an_open_one(self):
        for place in (0, 2):
            for stands, number in ((GOOD, None), (BAD, 4), (STUCK, None)):
                opened = cell(place, "o", last=ran(value="v"))
                above = cell(1, "q", "", ["o"], stands, 0, ran("", ["o"], ["v"], number=number))
                self.refuse(book(*sorted([opened, above])))
        self.refuse(book(cell(0, "o"), cell(1, "q", "", ["gone", "o"], STUCK)))
        self.refuse(book(cell(0, "o"), cell(1, "q", "", ["o", "q"], STUCK)))
        self.refuse(book(cell(0, "x", "", [], BAD, 0, ran(number=1)), cell(1, "o"), cell(2, "q", "", ["x", "o"], STUCK)))

    def test_stuck_for_no_reason(self):
        self.refuse(book(cell(0, "q", "", [], STUCK)))
        self.refuse(book(cell(0, "q", "", [], STUCK, 1, ran())))
        self.refuse(book(A, cell(1, "q", "", ["a"], STUCK)))
        self.refuse(book(A, B, cell(2, "q", "", ["a", "b", "a"], STUCK, 0, ran(number=1))))

    def test_good_or_bad_leans_on_what_is_not_good(self):
        bad = cell(0, "x", "", [], BAD, 0, ran(number=1))
        stuck = cell(1, "s", "", ["gone"], STUCK, 0, ran(value="v"))
        for below in ("gone", "x", "s"):
            for stands, number in ((GOOD, None), (BAD, 4)):
                for given in ("", "v"):
                    self.refuse(book(bad, stuck, cell(2, "q", "", [below], stands, 0,
                                                      ran("", [below], [given], number=number))))
                    self.refuse(book(*[A, cell(1, "x", "", [], BAD, 0, ran(number=1)), [2] + stuck[1:]],
                                     cell(3, "q", "", ["a", below], stands, 0,
                                          ran("", ["a", below], ["A", given], number=number))))

    def test_other_values_than_those_cells_have(self):
        two = [A, cell(1, "b", "", [], GOOD, 0, ran(value="B"))]
        for stands, number in ((GOOD, None), (BAD, 4)):
            for given in (["A", "A"], ["B", "B"], ["B", "A"], ["A", ""], ["A", "BB"], ["", "B"], ["a", "B"]):
                self.refuse(book(*two, cell(2, "q", "", ["a", "b"], stands, 0, ran("", ["a", "b"], given, number=number))))
            self.refuse(book(*two, cell(2, "q", "", ["a", "a"], stands, 0, ran("", ["a", "a"], ["A", "B"], number=number))))

    def test_rings_of_good_and_bad_cells(self):
        def ring(*names):
            return [cell(place + 1, name, "", [names[place - 1]], GOOD, 0, ran("", [names[place - 1]], ["v"], "v"))
                    for place, name in enumerate(names)]

        for names in ("q", "qr", "qrs", "qrstu"):
            self.refuse(book(*ring(*names)))
            self.refuse(book(cell(0, "a", "", [], GOOD, 0, ran(value="v")), *ring(*names)))
        self.refuse(book(cell(0, "q", "", ["q"], BAD, 0, ran("", ["q"], [""], number=1))))
        self.refuse(book(*ring("q", "r"), cell(7, "u", "", ["q"], GOOD, 0, ran("", ["q"], ["v"], ""))))
        self.refuse(book(*ring("q", "r"), cell(7, "u", "", ["q"], BAD, 0, ran("", ["q"], ["v"], number=1))))
        two_ways = cell(0, "q", "", ["a", "q"], GOOD, 0, ran("", ["a", "q"], ["v", "v"], "v"))
        self.refuse(book(two_ways, cell(1, "a", "", [], GOOD, 0, ran(value="v"))))


class EveryByte(Loading):
    """Bytes changed one by one, against the document's words as the test reckons them."""

    def check(self, variants):
        seen = {True: 0, False: 0}
        for written in variants:
            well = is_book(written)
            seen[well] += 1
            expected = [[0], [0] + written] if well else [[-2], [0] + EMPTY]
            self.assertEqual(run(load(written), save()), expected, written)
        self.assertTrue(seen[True] and seen[False], seen)

    def test_each_byte_changed(self):
        self.check(BOOK[:at] + [byte] + BOOK[at + 1:] for at in range(len(BOOK))
                   for byte in sorted({0, 1, 2, 3, 4, 8, 9, 33, 97, 98, 99, 104, 255, BOOK[at] ^ 1, BOOK[at] ^ 2}))

    def test_each_byte_left_out_or_put_in(self):
        self.check([BOOK] + [BOOK[:at] + BOOK[at + 1:] for at in range(len(BOOK))])
        self.check([BOOK] + [BOOK[:at] + [byte] + BOOK[at:] for at in range(len(BOOK) + 1) for byte in (0, 1, 97)])

    def test_each_choice_of_how_three_cells_stand(self):
        runs = [[0], ran("", ["b"], ["v"], "v"), ran("", ["b"], ["w"], number=2), ran("", [], [], "v"), ran(number=3)]
        variants = []
        for number in range(4 ** 3 * 5 ** 3):
            rest, cells = number, []
            for place, name in enumerate("abc"):
                rest, stands = divmod(rest, 4)
                rest, last_run = divmod(rest, 5)
                leans = ["b"] if (number + place) % 3 else []
                cells.append(cell(place, name, "", leans, stands, number % 7 == 0, runs[last_run]))
            variants.append(book(*cells))
        self.check(variants)
