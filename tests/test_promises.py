"""B1, B2, B3, B4 (who is stuck) and B6, over many books that are made by a written rule."""

import itertools
import unittest

from helper import (
    BAD, GOOD, OPEN, STUCK, Line, Settled, Told, ask_next, came, drop, last, put, run, settle, state, told, touch, work,
)

NAMES = ["a", "b", "c", "d", "e", "f", "g"]
LEANS = NAMES + ["gone"]
TEXTS = ["1", "2", "k", "p", "x"]
MANY = 300


class Rule:
    """Numbers that follow from a first one: always the same, but with little order in them."""

    def __init__(self, first):
        self.number = first * 2654435761 % 2 ** 32

    def pick(self, many):
        self.number = (self.number * 1664525 + 1013904223) % 2 ** 32
        return (self.number >> 12) % many

    def one_of(self, things):
        return things[self.pick(len(things))]


class Notebook:
    """A line, and what its book's cells must be: by name the text and the leans."""

    def __init__(self):
        self.line = Line()
        self.cells = {}
        self.places = [None] * 256

    def put(self, name, text, leans):
        if name not in self.cells:
            self.places[self.places.index(None)] = name
        self.cells[name] = (text, tuple(leans))
        self.line.say(put(name, text, leans))

    def drop(self, name):
        self.cells.pop(name)
        self.places[self.places.index(name)] = None
        self.line.say(drop(name))

    def copy(self):
        other = Notebook()
        other.line = Line(self.line.calls)
        other.cells, other.places = dict(self.cells), list(self.places)
        return other

    def in_order(self):
        return [name for name in self.places if name is not None]

    def anew(self):
        other = Notebook()
        for name in self.in_order():
            other.put(name, *self.cells[name])
        return other

    def stands(self):
        """By name: how it stands, the length of its value, its number."""
        names = self.in_order()
        out = self.line.look(*[state(self.places.index(name)) for name in names])
        return {name: (answer[0], answer[5], answer[6]) for name, answer in zip(names, out)}

    def values(self):
        """By name, the values of the good cells of a settled book: another cell that leans on them is asked for."""
        good = [name for name, (stand, size, number) in self.stands().items() if stand == GOOD]
        calls = []
        for count, name in enumerate(good):
            calls += [put("probe", [count], [name]), settle(1), came("")]
        out = self.line.look(*calls)
        return {name: Told(out[3 * count + 1]).values for count, name in enumerate(good)}

    def picture(self):
        return self.stands(), self.values()


def change(notebook, rule):
    """One change by the rule. Gives back the name touched or dropped, if one was."""
    kind = rule.pick(10)
    there = notebook.in_order()
    if kind < 7 or not there:
        leans = [rule.one_of(LEANS) for count in range(rule.pick(4))]
        notebook.put(rule.one_of(NAMES), rule.one_of(TEXTS), leans)
        return None, None
    name = rule.one_of(there)
    if kind == 7:
        notebook.drop(name)
        return None, name
    notebook.line.say(touch(name))
    return name, None


def made_by_rule(first):
    """A book after some changes, with settlings of a few runs between, not settled at the end."""
    rule = Rule(first)
    notebook = Notebook()
    for count in range(4 + rule.pick(16)):
        change(notebook, rule)
        if rule.pick(3) == 0:
            some_runs(notebook.line, rule.pick(4))
    return notebook


def some_runs(line, most):
    answer = Told(line.ask(settle(most)))
    while answer.answer == 1:
        answer = Told(line.ask(work(answer.text, answer.values)))


def reached(cells, name):
    """All names to which a chain of leaning leads from a cell, at least one step long."""
    out, left = set(), [name]
    while left:
        for lean in cells.get(left.pop(), (None, ()))[1]:
            if lean not in out:
                out.add(lean)
                left.append(lean)
    return out


def is_stuck(cells, stands, name):
    ahead = reached(cells, name)
    return any(lean not in cells or stands[lean][0] == BAD or lean in reached(cells, lean) for lean in ahead)


class Promises(unittest.TestCase):
    def test_b1_settled_is_as_if_run_anew(self):
        seen = set()
        for first in range(MANY):
            notebook = made_by_rule(first)
            Settled(notebook.line, [256])
            fresh = notebook.anew()
            Settled(fresh.line, [256])
            picture = notebook.picture()
            self.assertEqual(picture, fresh.picture(), first)
            seen.update(stand for stand, size, number in picture[0].values())
        self.assertEqual(seen, {GOOD, BAD, STUCK})

    def test_b1_all_books_of_three_cells(self):
        choices = [[lean for lean, bit in zip("abcg", (1, 2, 4, 8)) if bits & bit] for bits in range(16)]
        everything = list(itertools.product(choices, repeat=3))
        for number in range(0, len(everything), 3):
            notebook = Notebook()
            for name, leans in zip("abc", everything[number * 7 % len(everything)]):
                notebook.put(name, name, leans)
            Settled(notebook.line, [256])
            for name, leans in zip("abc", everything[number]):
                notebook.put(name, name, leans)
            Settled(notebook.line, [256])
            fresh = notebook.anew()
            Settled(fresh.line, [256])
            self.assertEqual(notebook.picture(), fresh.picture(), everything[number])

    def test_b2_no_needless_run(self):
        runs = 0
        for first in range(MANY):
            rule, notebook, known, touched = Rule(first), Notebook(), {}, set()
            for count in range(12):
                now_touched, dropped = change(notebook, rule)
                touched.add(now_touched)
                touched.discard(dropped)
                known.pop(dropped, None)
                if rule.pick(2):
                    continue
                settled = Settled(notebook.line, [256] if rule.pick(2) else [1] * 256)
                for names in settled.settlings:
                    self.assertEqual(len(names), len(set(names)), first)
                for name, text, values in settled.runs:
                    name = name.decode()
                    self.assertEqual(text.decode(), notebook.cells[name][0])
                    so = (notebook.cells[name], values)
                    self.assertTrue(name in touched or known.get(name) != so, (first, name))
                    known[name] = so
                    touched.discard(name)
                    runs += 1
        self.assertGreater(runs, MANY)

    def test_b2_none_twice_even_by_bits(self):
        for first in range(MANY):
            settled = Settled(made_by_rule(first).line, [1] * 256)
            names = [name for name, text, values in settled.runs]
            self.assertEqual(len(names), len(set(names)), first)

    def test_b3_by_bits_is_at_once(self):
        for first in range(MANY):
            notebook = made_by_rule(first)
            at_once = notebook.copy()
            whole = Settled(at_once.line, [256])
            for allowances in ([1] * 20, [0, 0, 1, 2] * 10, [2, 0, 3] * 10):
                by_bits = notebook.copy()
                parts = Settled(by_bits.line, allowances)
                self.assertEqual((parts.looked, parts.runs), (whole.looked, whole.runs), first)
                self.assertEqual(by_bits.picture(), at_once.picture(), first)

    def test_b4_who_is_stuck(self):
        for first in range(MANY):
            notebook = made_by_rule(first)
            Settled(notebook.line, [256])
            stands = notebook.stands()
            for name in notebook.in_order():
                expected = is_stuck(notebook.cells, stands, name)
                self.assertEqual(stands[name][0] == STUCK, expected, (first, name))
                self.assertNotEqual(stands[name][0], OPEN)

    def test_b6_settling_ends(self):
        for first in range(MANY):
            notebook = made_by_rule(first)
            settled = Settled(notebook.line, [256])
            self.assertLessEqual(len(settled.runs), len(notebook.cells))
            self.assertEqual(notebook.line.ask(ask_next()), [0, 0])
            self.assertEqual(notebook.line.ask(settle(256)), told(0, 0))

    def test_b6_full_book(self):
        # All 256 cells: a long chain that ends in a name without a cell, and another behind a bad cell.
        names = [f"n{number}" for number in range(256)]
        calls = [put(name, "", names[number + 1:number + 2]) for number, name in enumerate(names)]
        calls[255] = put("n255", "", ["gone"])
        calls[99] = put("n99", "x")
        looked = [(99, BAD)] + [(place, STUCK) for place in range(98, -1, -1)]
        looked += [(place, STUCK) for place in range(255, 99, -1)]
        self.assertEqual(last(*calls, settle(256), work(b"x", ())), told(0, 1, looked))

    def test_b6_every_cell_of_a_full_book_is_run(self):
        names = [f"n{number}" for number in range(256)]
        calls = [put(name, "", names[number + 1:number + 2]) for number, name in enumerate(names)]
        out = run(*calls, settle(256), *[came([number]) for number in range(256)], ask_next())
        self.assertEqual(out[256], told(1, 0, [], ("n255", "", [])))
        self.assertEqual(out[-2:], [told(0, 256, [(0, GOOD)]), [0, 0]])

    def test_next_tells_what_the_next_step_does(self):
        seen = set()
        for first in range(MANY):
            line = made_by_rule(first).line
            for count in range(20):
                choice, place = line.look(ask_next())[0]
                seen.add(choice)
                none_allowed = Told(line.look(settle(0))[0])
                one_allowed = Told(line.look(settle(1))[0])
                if choice == 0:
                    self.assertEqual((none_allowed.answer, none_allowed.looked), (0, []))
                    break
                if choice == 1:
                    self.assertEqual((none_allowed.answer, none_allowed.looked), (2, []))
                    self.assertEqual(line.look(settle(1), ask_next())[1], [1, place])
                    self.assertEqual(one_allowed.answer, 1)
                    answer = Told(line.ask(settle(1), work(one_allowed.text, one_allowed.values)))
                    self.assertEqual(answer.looked[0][0], place)
                if choice == 2:
                    self.assertEqual(none_allowed.looked[0][0], place)
                    line.say(settle(0))
                if choice == 3:
                    self.assertEqual(place, 0)
                    self.assertEqual({stand for where, stand in none_allowed.looked}, {STUCK})
                    self.assertEqual(none_allowed.answer, 0)
                    line.say(settle(0))
        self.assertEqual(seen, {0, 1, 2, 3})
