"""why: a name without a cell, a bad cell, a stuck one not by rings alone, or rings alone."""

import unittest

from helper import STUCK, came, drop, failed, last, put, run, settle, state, told, touch, why

# 0 good, 1 bad, 2 stuck on the bad one, 3 stuck on its own name.
BASE = [put("good"), put("bad"), put("onbad", "", ["bad"]), put("ring", "", ["ring"]), settle(9), came("v"), failed(2)]


def why_with(leans, *more):
    """Why a new cell at place 4 with these leans is stuck, when the book is settled."""
    return last(*BASE, put("c", "", leans), *more, settle(0), why(4))


class NotStuck(unittest.TestCase):
    def test_good_bad_open(self):
        self.assertEqual(run(*BASE, put("open", "", ["gone"]), why(0), why(1), why(4))[-3:], [[0, 0, 0]] * 3)

    def test_open_again(self):
        self.assertEqual(last(*BASE, touch("bad"), why(2)), [0, 0, 0])
        self.assertEqual(last(*BASE, touch("ring"), why(3)), [0, 0, 0])
        self.assertEqual(run(put("a", "", ["gone"]), why(0), settle(0), why(0))[1::2], [[0, 0, 0], [1, 0, 0]])

    def test_places(self):
        for calls in ([], BASE, BASE + [put("d"), put("e"), settle(1)]):
            self.assertEqual(run(*calls, why(6), why(255), why(256), why(65535))[-4:], [[-3], [-3], [-1], [-1]])
        full = [put(f"n{number}", "", ["n0"]) for number in range(256)]
        self.assertEqual(run(*full, settle(0), why(255), why(0), why(256))[-3:], [[3, 0, 0], [3, 0, 0], [-1]])


class NameWithoutCell(unittest.TestCase):
    def test_first_middle_last(self):
        self.assertEqual(why_with(["gone"]), [1, 0, 0])
        self.assertEqual(why_with(["gone", "good", "good"]), [1, 0, 0])
        self.assertEqual(why_with(["good", "gone", "good"]), [1, 1, 0])
        self.assertEqual(why_with(["good", "good", "gone"]), [1, 2, 0])
        self.assertEqual(why_with(["good"] * 7 + ["gone"]), [1, 7, 0])

    def test_behind_a_bad_or_stuck_one(self):
        for other in ("bad", "onbad", "ring"):
            self.assertEqual(why_with([other, "gone"]), [1, 1, 0])
            self.assertEqual(why_with(["gone", other]), [1, 0, 0])
            self.assertEqual(why_with([other] * 7 + ["gone"]), [1, 7, 0])
        self.assertEqual(why_with(["bad", "c", "gone"]), [1, 2, 0])

    def test_first_of_two(self):
        self.assertEqual(why_with(["good", "gone", "lost", "gone"]), [1, 1, 0])

    def test_before_its_place_got_another_cell(self):
        self.assertEqual(last(*BASE, drop("bad"), put("other"), settle(1), came(""), why(2)), [1, 0, 0])


class NotByRingsAlone(unittest.TestCase):
    def test_bad_cell(self):
        self.assertEqual(last(*BASE, why(2)), [2, 0, 1])
        self.assertEqual(why_with(["good", "bad"]), [2, 1, 1])
        self.assertEqual(why_with(["good"] * 7 + ["bad"]), [2, 7, 1])

    def test_first_of_several(self):
        self.assertEqual(why_with(["onbad", "bad"]), [2, 0, 2])
        self.assertEqual(why_with(["bad", "onbad"]), [2, 0, 1])
        self.assertEqual(why_with(["good", "bad", "bad"]), [2, 1, 1])

    def test_chains(self):
        for many in (1, 2, 100):
            for end, first in (("bad", [2, 0, 1]), ("gone", [1, 0, 0])):
                names = [end] + [f"n{number}" for number in range(many + 1)]
                chain = [put(name, "", [below]) for below, name in zip(names, names[1:])]
                asked = [why(4 + number) for number in range(many + 1)]
                expected = [first] + [[2, 0, 4 + number] for number in range(many)]
                self.assertEqual(run(*BASE, *chain, settle(0), *asked)[-len(asked):], expected)

    def test_chains_put_from_above(self):
        for many in (1, 2, 100):
            names = [f"n{number}" for number in range(many + 1)] + ["gone"]
            chain = [put(name, "", [below]) for name, below in zip(names, names[1:])]
            asked = [why(number) for number in range(many + 1)]
            expected = [[2, 0, number + 1] for number in range(many)] + [[1, 0, 0]]
            self.assertEqual(run(*chain, settle(0), *asked)[-len(asked):], expected)

    def test_a_ring_and_a_bad_cell(self):
        self.assertEqual(why_with(["ring", "bad"]), [2, 1, 1])
        self.assertEqual(why_with(["bad", "ring"]), [2, 0, 1])
        self.assertEqual(why_with(["ring", "onbad"]), [2, 1, 2])
        self.assertEqual(why_with(["onbad", "ring"]), [2, 0, 2])

    def test_itself_and_a_bad_cell(self):
        # It leans on a bad cell, so that it is itself stuck not by rings alone, and its own name comes first.
        self.assertEqual(why_with(["c", "bad"]), [2, 0, 4])
        self.assertEqual(why_with(["bad", "c"]), [2, 0, 1])

    def test_ring_of_which_one_leans_on_something_else_too(self):
        for other, first in (("gone", [1, 1, 0]), ("bad", [2, 0, 6])):
            # 4 to 6 are the ring; 7 leans on it, 8 on that.
            ring = [put("x", "", ["z", other]), put("y", "", ["x"]), put("z", "", ["y"]), put("u", "", ["ring", "y"]),
                    put("v", "", ["u"])]
            self.assertEqual(run(*BASE, *ring, settle(0), *[why(place) for place in range(4, 9)], why(3))[-6:],
                             [first, [2, 0, 4], [2, 0, 5], [2, 1, 5], [2, 0, 7], [3, 0, 3]])
            ring[0] = put("x", "", [other, "z"])
            self.assertEqual(last(*BASE, *ring, settle(0), why(4)), [1, 0, 0] if other == "gone" else [2, 0, 1])


class RingsAlone(unittest.TestCase):
    def test_one_two_three(self):
        self.assertEqual(last(*BASE, why(3)), [3, 0, 3])
        self.assertEqual(run(put("a", "", ["b"]), put("b", "", ["a"]), settle(0), why(0), why(1))[-2:],
                         [[3, 0, 1], [3, 0, 0]])
        three = [put("a", "", ["c"]), put("b", "", ["a"]), put("c", "", ["b"]), settle(0)]
        self.assertEqual(run(*three, why(0), why(1), why(2))[-3:], [[3, 0, 2], [3, 0, 0], [3, 0, 1]])

    def test_first_stuck_one_behind_good_ones(self):
        self.assertEqual(why_with(["good", "good", "ring", "c"]), [3, 2, 3])
        self.assertEqual(why_with(["good", "c", "ring"]), [3, 1, 4])
        self.assertEqual(why_with(["good"] * 7 + ["ring"]), [3, 7, 3])

    def test_chains_that_lead_to_a_ring(self):
        names = ["ring"] + [f"n{number}" for number in range(100)]
        chain = [put(name, "", [below]) for below, name in zip(names, names[1:])]
        self.assertEqual(run(*BASE, *chain, settle(0), *[why(4 + number) for number in range(100)])[-100:],
                         [[3, 0, 3 + number] for number in range(100)])

    def test_what_leans_on_a_ring_does_not_spoil_it(self):
        # c leans on the ring and on a bad cell; the ring does not lean on c.
        self.assertEqual(last(*BASE, put("c", "", ["ring", "bad"]), settle(0), why(3)), [3, 0, 3])


class SettledAgain(unittest.TestCase):
    def test_the_name_got_a_cell(self):
        calls = [put("a", "", ["gone"]), put("b", "", ["a"]), settle(0)]
        self.assertEqual(run(*calls, why(0), why(1))[-2:], [[1, 0, 0], [2, 0, 0]])
        self.assertEqual(run(*calls, put("gone"), settle(1), failed(1), why(0), why(1))[-2:], [[2, 0, 2], [2, 0, 0]])
        self.assertEqual(run(*calls, put("gone", "", ["b"]), settle(0), why(0), why(1), why(2))[-3:],
                         [[3, 0, 2], [3, 0, 0], [3, 0, 1]])
        self.assertEqual(run(*calls, put("gone"), settle(3), came(""), came(""), came(""), why(0), why(1))[-2:],
                         [[0, 0, 0]] * 2)

    def test_the_name_lost_its_cell(self):
        three = [put("a", "", ["c"]), put("b", "", ["a"]), put("c", "", ["b"]), settle(0)]
        self.assertEqual(run(*three, drop("c"), why(0), settle(0), why(0), why(1))[-4:],
                         [[0, 0, 0], told(0, 0, [(0, STUCK), (1, STUCK)]), [1, 0, 0], [2, 0, 0]])
        self.assertEqual(run(*BASE, drop("bad"), settle(0), why(2))[-1], [1, 0, 0])

    def test_the_bad_cell_came_good_and_bad_again(self):
        calls = BASE + [put("c", "", ["ring", "onbad"]), settle(0)]
        good = calls + [touch("bad"), settle(9), came(""), came("")]
        self.assertEqual(last(*calls, why(4)), [2, 1, 2])
        self.assertEqual(last(*good, why(4)), [3, 0, 3])
        self.assertEqual(last(*good, touch("bad"), settle(9), failed(5), why(4)), [2, 1, 2])

    def test_the_ring_was_undone(self):
        calls = BASE + [put("c", "", ["ring"]), settle(0), put("ring", "", ["bad"]), settle(0)]
        self.assertEqual(run(*calls, why(3), why(4))[-2:], [[2, 0, 1], [2, 0, 3]])


class WhileItWaits(unittest.TestCase):
    def test_as_before_the_step(self):
        calls = BASE + [put("new"), put("onnew", "", ["new", "gone"]), settle(1)]
        self.assertEqual(run(*calls, *[why(place) for place in range(6)])[-6:],
                         [[0, 0, 0], [0, 0, 0], [2, 0, 1], [3, 0, 3], [0, 0, 0], [0, 0, 0]])
        self.assertEqual(run(*calls, came(""), why(5), state(5))[-2:], [[1, 1, 0], [STUCK, 0, 2, 0, 0, 0, 0]])
