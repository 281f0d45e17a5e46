"""settle, came and next: the steps, the stops, what is looked at."""

import unittest

from helper import (
    BAD, GOOD, OPEN, STUCK, TOP_NUMBER, ask_next, came, counts, drop, failed, last, put, run, settle, state, told,
    touch,
)

TWO = [put("a", "1"), put("b", "2", ["a"])]
TWO_GOOD = TWO + [settle(2), came("A"), came("B")]


class Settle(unittest.TestCase):
    def test_empty_book(self):
        for most in (0, 1, 256, 2 ** 32 - 1):
            self.assertEqual(last(settle(most)), told(0, 0))

    def test_none_allowed(self):
        self.assertEqual(run(*TWO, settle(0), settle(0), state(0), came("A"))[2:],
                         [told(2, 0), told(2, 0), [OPEN, 1, 0, 0, 0, 0, 0], [-8]])

    def test_none_allowed_takes_what_needs_no_run(self):
        calls = TWO_GOOD + [put("c", "", ["gone"]), put("a", "1"), put("d")]
        self.assertEqual(last(*calls, settle(0)), told(2, 0, [(0, GOOD), (1, GOOD), (2, STUCK)]))

    def test_stops_and_goes_on(self):
        calls = [put("a"), put("b"), put("c")]
        self.assertEqual(run(*calls, settle(2), came("1"), came("2"), state(2), settle(0), settle(1), came("3"))[3:], [
            told(1, 0, [], ("a", "", [])),
            told(1, 1, [(0, GOOD)], ("b", "", [])),
            told(2, 2, [(1, GOOD)]),
            [OPEN, 0, 0, 0, 0, 0, 0],
            told(2, 0),
            told(1, 0, [], ("c", "", [])),
            told(0, 1, [(2, GOOD)]),
        ])

    def test_just_enough_runs_end(self):
        self.assertEqual(last(*TWO, settle(2), came("A"), came("B")), told(0, 2, [(1, GOOD)]))
        self.assertEqual(last(*TWO, settle(1), came("A")), told(2, 1, [(0, GOOD)]))

    def test_goes_on_without_runs_when_all_are_made(self):
        calls = TWO_GOOD + [put("c", "", ["gone"]), touch("a"), settle(1), came("A")]
        self.assertEqual(last(*calls), told(0, 1, [(0, GOOD), (1, GOOD), (2, STUCK)]))

    def test_changes_while_stopped(self):
        calls = TWO + [settle(1), came("A"), put("a", "9"), drop("b"), touch("a"), settle(1), came("")]
        self.assertEqual(run(*calls)[4:],
                         [[0], [1], [0], told(1, 0, [], ("a", "9", [])), told(0, 1, [(0, GOOD)])])

    def test_settled_book_settles_at_once(self):
        self.assertEqual(last(*TWO_GOOD, settle(9)), told(0, 0))

    def test_lowest_place_first(self):
        # c is at place 0 and leans on b at 2, that on a at 3; d at 1 is free.
        calls = [put("c", "", ["b"]), put("d"), put("b", "", ["a"]), put("a"), settle(9)]
        self.assertEqual(run(*calls, came("1"), came("2"), came("3"), came("4"))[4:], [
            told(1, 0, [], ("d", "", [])),
            told(1, 1, [(1, GOOD)], ("a", "", [])),
            told(1, 2, [(3, GOOD)], ("b", "", ["2"])),
            told(1, 3, [(2, GOOD)], ("c", "", ["3"])),
            told(0, 4, [(0, GOOD)]),
        ])

    def test_falls_back_to_a_lower_place(self):
        # Taking place 1 makes place 0 ready, which comes before place 2.
        calls = [put("x", "", ["y"]), put("y", "", ["gone"]), put("z", "", ["gone"]), settle(0)]
        self.assertEqual(last(*calls), told(0, 0, [(1, STUCK), (0, STUCK), (2, STUCK)]))

    def test_one_name_twice(self):
        calls = [put("a"), put("b", "t", ["a", "c", "a"]), put("c"), settle(9), came("1"), came("2")]
        self.assertEqual(last(*calls), told(1, 2, [(2, GOOD)], ("b", "t", ["1", "2", "1"])))

    def test_eight_names(self):
        names = [f"n{number}" for number in range(8)]
        calls = [put(name) for name in names] + [put("b", "", names[::-1]), settle(9)]
        calls += [came([number]) for number in range(8)]
        self.assertEqual(last(*calls), told(1, 8, [(7, GOOD)], ("b", "", [[7 - number] for number in range(8)])))


class Stuck(unittest.TestCase):
    def test_on_a_name_without_a_cell(self):
        self.assertEqual(run(put("a", "", ["gone"]), ask_next(), settle(0), state(0))[1:],
                         [[2, 0], told(0, 0, [(0, STUCK)]), [STUCK, 0, 1, 0, 0, 0, 0]])
        self.assertEqual(last(*TWO_GOOD, put("c", "", ["a", "b", "gone"]), settle(9)), told(0, 0, [(2, STUCK)]))

    def test_on_a_bad_or_stuck_cell(self):
        calls = [put("a"), put("b", "", ["a"]), put("c", "", ["b"]), settle(9), failed(5)]
        self.assertEqual(last(*calls), told(0, 1, [(0, BAD), (1, STUCK), (2, STUCK)]))
        self.assertEqual(last(*calls, touch("a"), settle(9), came("")), told(1, 1, [(0, GOOD)], ("b", "", [""])))

    def test_on_its_own_name(self):
        self.assertEqual(run(put("a", "", ["a"]), ask_next(), settle(9), ask_next(), settle(9))[1:],
                         [[3, 0], told(0, 0, [(0, STUCK)]), [0, 0], told(0, 0)])

    def test_own_name_with_a_last_run(self):
        self.assertEqual(last(*TWO_GOOD, put("a", "1", ["a"]), settle(9)), told(0, 0, [(0, STUCK), (1, STUCK)]))

    def test_rings_and_what_leans_on_them_by_rising_places(self):
        calls = [put("u", "", ["c"]), put("c", "", ["b"]), put("b", "", ["c", "g"]), put("g"), put("w", "", ["w"]),
                 settle(9)]
        self.assertEqual(run(*calls, ask_next(), came(""))[5:], [
            told(1, 0, [], ("g", "", [])), [1, 3],
            told(0, 1, [(3, GOOD), (0, STUCK), (1, STUCK), (2, STUCK), (4, STUCK)]),
        ])

    def test_next_to_a_ring_and_missing_name_waits_for_the_ring(self):
        calls = [put("a", "", ["gone", "b"]), put("b", "", ["b"]), ask_next(), settle(0)]
        self.assertEqual(run(*calls)[2:], [[3, 0], told(0, 0, [(0, STUCK), (1, STUCK)])])

    def test_ring_undone(self):
        calls = [put("a", "1", ["b"]), put("b", "2", ["a"]), settle(9), put("b", "2"), settle(9), came("B")]
        self.assertEqual(run(*calls)[2:], [
            told(0, 0, [(0, STUCK), (1, STUCK)]), [1],
            told(1, 0, [], ("b", "2", [])), told(1, 1, [(1, GOOD)], ("a", "1", ["B"])),
        ])

    def test_stuck_cell_keeps_its_last_run(self):
        calls = TWO_GOOD + [put("b", "2", ["gone"]), settle(9), state(1), put("b", "2", ["a"]), settle(9), state(1)]
        self.assertEqual(run(*calls)[6:], [
            told(0, 0, [(1, STUCK)]), [STUCK, 1, 1, 1, 0, 0, 0], [1], told(0, 0, [(1, GOOD)]), [GOOD, 1, 1, 1, 0, 1, 0],
        ])

    def test_stuck_cell_stays_touched(self):
        calls = TWO_GOOD + [touch("b"), put("b", "2", ["gone"]), settle(9), state(1), put("b", "2", ["a"]), settle(9)]
        self.assertEqual(run(*calls)[7:],
                         [told(0, 0, [(1, STUCK)])] + [[STUCK, 1, 1, 1, 1, 0, 0], [1]]
                         + [told(1, 0, [], ("b", "2", ["A"]))])


class NotRunAgain(unittest.TestCase):
    def test_value_as_before(self):
        calls = TWO_GOOD + [put("a", "other"), settle(9), came("A")]
        self.assertEqual(last(*calls), told(0, 1, [(0, GOOD), (1, GOOD)]))

    def test_value_changed(self):
        calls = TWO_GOOD + [put("a", "other"), settle(9), came("AA")]
        self.assertEqual(last(*calls), told(1, 1, [(0, GOOD)], ("b", "2", ["AA"])))

    def test_text_put_back(self):
        calls = TWO_GOOD + [put("a", "other"), put("a", "1"), settle(0)]
        self.assertEqual(last(*calls), told(0, 0, [(0, GOOD), (1, GOOD)]))

    def test_only_the_last_run_is_known(self):
        calls = TWO_GOOD + [put("a", "other"), settle(9), came("A"), put("a", "1"), settle(9)]
        self.assertEqual(last(*calls), told(1, 0, [], ("a", "1", [])))

    def test_other_text(self):
        self.assertEqual(last(*TWO_GOOD, put("b", "2 ", ["a"]), settle(9)), told(1, 0, [], ("b", "2 ", ["A"])))

    def test_other_names_with_the_same_values(self):
        calls = TWO_GOOD + [put("c"), settle(1), came("A"), put("b", "2", ["c"]), settle(9)]
        self.assertEqual(last(*calls), told(1, 0, [], ("b", "2", ["A"])))

    def test_other_order_of_names_with_the_same_values(self):
        calls = [put("a"), put("b"), put("c", "", ["a", "b"]), settle(3), came("v"), came("v"), came("w"),
                 put("c", "", ["b", "a"]), settle(9)]
        self.assertEqual(last(*calls), told(1, 0, [], ("c", "", ["v", "v"])))

    def test_values_that_read_alike_put_together(self):
        calls = [put("a"), put("b"), put("c", "", ["a", "b"]), settle(3), came("xy"), came("z"), came("w"),
                 touch("a"), touch("b"), settle(9), came("x"), came("yz")]
        self.assertEqual(last(*calls), told(1, 2, [(1, GOOD)], ("c", "", ["x", "yz"])))

    def test_bad_as_before(self):
        calls = [put("a", "t"), put("b", "", ["a"]), settle(9), failed(6), put("a", "t"), settle(0), state(0)]
        self.assertEqual(run(*calls)[-2:], [told(0, 0, [(0, BAD), (1, STUCK)]), [BAD, 1, 0, 1, 0, 0, 6]])

    def test_touched_is_run_though_nothing_changed(self):
        calls = TWO_GOOD + [touch("b"), settle(9), state(1), came("B"), state(1), put("b", "2", ["a"]), settle(9)]
        self.assertEqual(run(*calls)[5:], [
            [1], told(1, 0, [], ("b", "2", ["A"])), [OPEN, 1, 1, 1, 1, 0, 0],
            told(0, 1, [(1, GOOD)]), [GOOD, 1, 1, 1, 0, 1, 0], [1], told(0, 0, [(1, GOOD)]),
        ])

    def test_dropped_source_put_again_with_the_same_value(self):
        calls = TWO_GOOD + [drop("a"), settle(0), put("a", "1"), settle(1), came("A")]
        self.assertEqual(run(*calls)[6:],
                         [told(0, 0, [(1, STUCK)]), [0], told(1, 0, [], ("a", "1", [])),
                          told(0, 1, [(0, GOOD), (1, GOOD)])])


class Came(unittest.TestCase):
    def test_lengths_of_value(self):
        for size in (0, 1, 16383, 16384):
            self.assertEqual(run(put("a"), settle(1), came([7] * size), state(0))[2:],
                             [told(0, 1, [(0, GOOD)]), [GOOD, 0, 0, 1, 0, size, 0]])
        for size in (16385, 20000):
            self.assertEqual(run(put("a"), settle(1), came([7] * size), state(0))[2:],
                             [told(0, 1, [(0, BAD)]), [BAD, 0, 0, 1, 0, 0, TOP_NUMBER]])

    def test_longest_value_is_handed_on(self):
        value = [number % 256 for number in range(16384)]
        calls = TWO + [settle(2), came(value)]
        self.assertEqual(last(*calls), told(1, 1, [(0, GOOD)], ("b", "2", [value])))

    def test_numbers(self):
        for number in (1, 2, 255, 2 ** 31, TOP_NUMBER):
            self.assertEqual(run(put("a"), settle(1), failed(number), state(0))[2:],
                             [told(0, 1, [(0, BAD)]), [BAD, 0, 0, 1, 0, 0, number]])
        for number in (0, TOP_NUMBER + 1, 2 ** 33 - 1):
            self.assertEqual(run(put("a"), settle(1), failed(number), ask_next(), came("v"))[2:],
                             [[-1], [1, 0], told(0, 1, [(0, GOOD)])])

    def test_bad_is_open_again_and_comes_good(self):
        calls = [put("a"), settle(1), failed(3), put("a", "n"), settle(1), came("v"), state(0)]
        self.assertEqual(run(*calls)[-2:], [told(0, 1, [(0, GOOD)]), [GOOD, 1, 0, 1, 0, 1, 0]])

    def test_when_nothing_is_waited_for(self):
        for calls in ([], TWO, TWO + [settle(0)], TWO + [settle(1), came("A")], TWO_GOOD):
            self.assertEqual(last(*calls, came("v")), [-8])
            self.assertEqual(last(*calls, failed(1)), [-8])

    def test_run_cell_is_looked_at_first(self):
        calls = [put("z", "", ["a"]), put("a"), settle(9), failed(1)]
        self.assertEqual(last(*calls), told(0, 1, [(1, BAD), (0, STUCK)]))


class Next(unittest.TestCase):
    def test_none_open(self):
        self.assertEqual(last(ask_next()), [0, 0])
        self.assertEqual(last(*TWO_GOOD, ask_next()), [0, 0])

    def test_a_run(self):
        self.assertEqual(last(*TWO, ask_next()), [1, 0])
        self.assertEqual(last(*TWO_GOOD, touch("b"), ask_next()), [1, 1])
        self.assertEqual(last(*TWO_GOOD, put("b", "x", ["a"]), ask_next()), [1, 1])

    def test_no_run(self):
        self.assertEqual(last(*TWO_GOOD, put("b", "2", ["a"]), ask_next()), [2, 1])
        self.assertEqual(last(*TWO_GOOD, put("b", "x", ["c"]), ask_next()), [2, 1])
        self.assertEqual(last(*TWO_GOOD, touch("b"), put("b", "x", ["c"]), ask_next()), [2, 1])

    def test_none_can_be_taken(self):
        self.assertEqual(last(put("g"), settle(1), came(""), put("a", "", ["b"]), put("b", "", ["a"]), ask_next()), [3, 0])

    def test_while_it_waits(self):
        calls = TWO + [put("c"), settle(9)]
        self.assertEqual(run(*calls, ask_next(), came("A"), ask_next(), came("B"), ask_next(), came(""), ask_next())[4:], [
            [1, 0], told(1, 1, [(0, GOOD)], ("b", "2", ["A"])), [1, 1],
            told(1, 2, [(1, GOOD)], ("c", "", [])), [1, 2], told(0, 3, [(2, GOOD)]), [0, 0],
        ])

    def test_when_stopped(self):
        self.assertEqual(last(*TWO, settle(1), came("A"), ask_next()), [1, 1])

    def test_asking_changes_nothing(self):
        calls = TWO_GOOD + [put("a", "1")]
        self.assertEqual(run(*calls, ask_next(), ask_next(), settle(0))[-3:],
                         [[2, 0], [2, 0], told(0, 0, [(0, GOOD), (1, GOOD)])])


class RunsCounted(unittest.TestCase):
    def counted(self, *calls):
        return last(*calls, counts())[-1]

    def test_new_book(self):
        self.assertEqual(self.counted(), 0)

    def test_good_and_bad_runs(self):
        self.assertEqual(self.counted(*TWO, settle(9)), 0)
        self.assertEqual(self.counted(*TWO, settle(9), came("A"), failed(3)), 2)

    def test_over_several_settlings(self):
        self.assertEqual(self.counted(*TWO_GOOD, touch("a"), settle(9), came("A"), drop("a"), drop("b")), 3)

    def test_no_run_no_count(self):
        self.assertEqual(self.counted(*TWO_GOOD, put("a", "1"), settle(9), came("A"), put("c", "", ["c"]), settle(9)), 2)
        self.assertEqual(self.counted(put("a"), settle(1), failed(0)), 0)
