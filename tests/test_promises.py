"""B1 to B6 over many books, loaded ones too, that are made by a written rule."""

import itertools
import unittest

from helper import (
    BAD, GOOD, OPEN, STUCK, Line, Settled, Told, ask_next, book, came, cell, counts, drop, find, is_book, last, leans_of,
    load, put, ran, reached, read_cells, run, save, settle, state, text_of, told, touch, users, value, why, work,
)

NAMES = ["a", "b", "c", "d", "e", "f", "g"]
LEANS = NAMES + ["gone"]
TEXTS = ["1", "2", "k", "p", "x"]
MANY = 300


class Rule:
    """Numbers that follow from a first one: always the same, but with little order in them."""

    def __init__(self, first):
        self.number = first * 2654435761 % 2 ** 32

    def pick(self, many):
        self.number = (self.number * 1664525 + 1013904223) % 2 ** 32
        return (self.number >> 12) % many

    def one_of(self, things):
        return things[self.pick(len(things))]


class Notebook:
    """A line, and what its book's cells must be: by name the text and the leans."""

    def __init__(self):
        self.line = Line()
        self.cells = {}
        self.places = [None] * 256

    def put(self, name, text, leans):
        if name not in self.cells:
            self.places[self.places.index(None)] = name
        self.cells[name] = (text, tuple(leans))
        self.line.say(put(name, text, leans))

    def drop(self, name):
        self.cells.pop(name)
        self.places[self.places.index(name)] = None
        self.line.say(drop(name))

    def copy(self):
        other = Notebook()
        other.line = Line(self.line.calls)
        other.cells, other.places = dict(self.cells), list(self.places)
        return other

    def reload(self, anew):
        """Saves and loads the book, into a new one or into itself."""
        written = self.line.look(save())[0][1:]
        self.line = Line(() if anew else self.line.calls)
        self.line.say(load(written))

    def in_order(self):
        return [name for name in self.places if name is not None]

    def anew(self):
        other = Notebook()
        for name in self.in_order():
            other.put(name, *self.cells[name])
        return other

    def stands(self):
        """By name: how it stands, the length of its value, its number."""
        names = self.in_order()
        out = self.line.look(*[state(self.places.index(name)) for name in names])
        return {name: (answer[0], answer[5], answer[6]) for name, answer in zip(names, out)}

    def values(self):
        """By name, what value answers."""
        names = self.in_order()
        return dict(zip(names, self.line.look(*[value(self.places.index(name)) for name in names])))

    def picture(self):
        return self.stands(), self.values()


def change(notebook, rule):
    """One change by the rule. Gives back the name touched or dropped, if one was."""
    kind = rule.pick(10)
    there = notebook.in_order()
    if kind < 7 or not there:
        leans = [rule.one_of(LEANS) for count in range(rule.pick(4))]
        notebook.put(rule.one_of(NAMES), rule.one_of(TEXTS), leans)
        return None, None
    name = rule.one_of(there)
    if kind == 7:
        notebook.drop(name)
        return None, name
    notebook.line.say(touch(name))
    return name, None


def last_run_by_rule(rule):
    """A last run that no call need ever have asked for, with what would have come of it."""
    text, leans = rule.one_of(TEXTS), [rule.one_of(LEANS) for count in range(rule.pick(3))]
    values = [rule.one_of([b"", b"k", b"1()", bytes([0])]) for lean in leans]
    if rule.pick(3) == 0:
        return [0]
    call = work(text.encode(), values)
    if call[1] == 2:
        return ran(text, leans, values, number=call[3])
    return ran(text, leans, values, call[5:])


def written_by_rule(rule):
    """A book of open cells with any last runs, touched or not, loaded from bytes that no save gave."""
    notebook, cells = Notebook(), []
    for place, name in enumerate(NAMES):
        if rule.pick(4):
            text, leans = rule.one_of(TEXTS), [rule.one_of(LEANS) for count in range(rule.pick(3))]
            cells.append(cell(place, name, text, leans, OPEN, rule.pick(4) == 0, last_run_by_rule(rule)))
            notebook.cells[name], notebook.places[place] = (text, tuple(leans)), name
    notebook.line.say(load(book(*cells)))
    return notebook


def made_by_rule(first):
    """A book after some changes, with settlings of a few runs between, not settled at the end."""
    rule = Rule(first)
    notebook = written_by_rule(rule) if first % 3 == 2 else Notebook()
    for count in range(4 + rule.pick(16)):
        change(notebook, rule)
        if rule.pick(3) == 0:
            some_runs(notebook.line, rule.pick(4))
        if rule.pick(8) == 0:
            notebook.reload(rule.pick(2))
    return notebook


def some_runs(line, most):
    answer = Told(line.ask(settle(most)))
    while answer.answer == 1:
        answer = Told(line.ask(work(answer.text, answer.values)))


def is_stuck(cells, stands, name):
    ahead = reached(cells, name)
    return any(lean not in cells or stands[lean][0] == BAD or lean in reached(cells, lean) for lean in ahead)


def not_by_rings_alone(cells, stands):
    """The stuck cells that are so, by the document's words, as often gone over as something comes to it."""
    out, before = set(), None
    while before != len(out):
        before = len(out)
        for name in cells:
            if stands[name][0] == STUCK and any(
                    lean not in cells or stands[lean][0] == BAD or lean in out for lean in cells[name][1]):
                out.add(name)
    return out


def why_by_the_words(notebook, stands, spoiled, name):
    leans = notebook.cells[name][1]
    if stands[name][0] != STUCK:
        return [0, 0, 0]
    for number, lean in enumerate(leans):
        if lean not in notebook.cells:
            return [1, number, 0]
    for number, lean in enumerate(leans):
        if stands[lean][0] == BAD or lean in spoiled:
            return [2, number, notebook.places.index(lean)]
    for number, lean in enumerate(leans):
        if stands[lean][0] == STUCK:
            return [3, number, notebook.places.index(lean)]


# All that can be asked of a book of the rule's, but for the runs.
ASK = [ask_next(), save()] + [find(name) for name in LEANS]
ASK += [ask(place) for place in range(len(NAMES) + 1) for ask in (state, value, text_of, leans_of, users, why)]


class Promises(unittest.TestCase):
    def test_b1_settled_is_as_if_run_anew(self):
        seen = set()
        for first in range(MANY):
            notebook = made_by_rule(first)
            Settled(notebook.line, [256])
            fresh = notebook.anew()
            Settled(fresh.line, [256])
            picture = notebook.picture()
            self.assertEqual(picture, fresh.picture(), first)
            seen.update(stand for stand, size, number in picture[0].values())
        self.assertEqual(seen, {GOOD, BAD, STUCK})

    def test_b1_all_books_of_three_cells(self):
        choices = [[lean for lean, bit in zip("abcg", (1, 2, 4, 8)) if bits & bit] for bits in range(16)]
        everything = list(itertools.product(choices, repeat=3))
        for number in range(0, len(everything), 3):
            notebook = Notebook()
            for name, leans in zip("abc", everything[number * 7 % len(everything)]):
                notebook.put(name, name, leans)
            Settled(notebook.line, [256])
            for name, leans in zip("abc", everything[number]):
                notebook.put(name, name, leans)
            Settled(notebook.line, [256])
            fresh = notebook.anew()
            Settled(fresh.line, [256])
            self.assertEqual(notebook.picture(), fresh.picture(), everything[number])

    def test_b2_no_needless_run(self):
        runs = 0
        for first in range(MANY):
            rule, notebook, known, touched = Rule(first), Notebook(), {}, set()
            for count in range(12):
                if rule.pick(5) == 0:
                    notebook.reload(rule.pick(2))
                now_touched, dropped = change(notebook, rule)
                touched.add(now_touched)
                touched.discard(dropped)
                known.pop(dropped, None)
                if rule.pick(2):
                    continue
                settled = Settled(notebook.line, [256] if rule.pick(2) else [1] * 256)
                for names in settled.settlings:
                    self.assertEqual(len(names), len(set(names)), first)
                for name, text, values in settled.runs:
                    name = name.decode()
                    self.assertEqual(text.decode(), notebook.cells[name][0])
                    so = (notebook.cells[name], values)
                    self.assertTrue(name in touched or known.get(name) != so, (first, name))
                    known[name] = so
                    touched.discard(name)
                    runs += 1
        self.assertGreater(runs, MANY)

    def test_b2_none_twice_even_by_bits(self):
        for first in range(MANY):
            settled = Settled(made_by_rule(first).line, [1] * 256)
            names = [name for name, text, values in settled.runs]
            self.assertEqual(len(names), len(set(names)), first)

    def test_b3_by_bits_is_at_once(self):
        for first in range(MANY):
            notebook = made_by_rule(first)
            at_once = notebook.copy()
            whole = Settled(at_once.line, [256])
            for allowances in ([1] * 20, [0, 0, 1, 2] * 10, [2, 0, 3] * 10):
                by_bits = notebook.copy()
                parts = Settled(by_bits.line, allowances)
                self.assertEqual((parts.looked, parts.runs), (whole.looked, whole.runs), first)
                self.assertEqual(by_bits.picture(), at_once.picture(), first)

    def test_b4_who_is_stuck(self):
        for first in range(MANY):
            notebook = made_by_rule(first)
            Settled(notebook.line, [256])
            stands = notebook.stands()
            for name in notebook.in_order():
                expected = is_stuck(notebook.cells, stands, name)
                self.assertEqual(stands[name][0] == STUCK, expected, (first, name))
                self.assertNotEqual(stands[name][0], OPEN)

    def test_b4_why(self):
        seen = set()
        for first in range(MANY):
            notebook = made_by_rule(first)
            for settled in (False, True):
                if settled:
                    Settled(notebook.line, [256])
                stands, names = notebook.stands(), notebook.in_order()
                spoiled = not_by_rings_alone(notebook.cells, stands)
                expected = [why_by_the_words(notebook, stands, spoiled, name) for name in names]
                self.assertEqual(notebook.line.look(*[why(notebook.places.index(name)) for name in names]), expected)
                seen.update((settled, answer[0]) for answer in expected)
        self.assertEqual(len(seen), 8)

    def test_b4_why_is_3_just_where_rings_alone_are_so(self):
        for first in range(MANY):
            notebook = made_by_rule(first)
            Settled(notebook.line, [256])
            stands = notebook.stands()
            for name in notebook.in_order():
                ahead = reached(notebook.cells, name)
                others = any(lean not in notebook.cells or stands[lean][0] == BAD for lean in ahead)
                rings = any(lean in reached(notebook.cells, lean) for lean in ahead)
                answer = notebook.line.look(why(notebook.places.index(name)))[0][0]
                self.assertEqual(answer == 3, rings and not others, (first, name))

    def test_b5_saved_and_loaded_between_two_calls(self):
        points = waiting = 0
        for first in range(0, MANY, 4):
            calls = made_by_rule(first).line.calls + [settle(2), came("1"), came("2"), settle(9), came("3")]
            whole = run(*calls)
            for cut in range(len(calls) + 1):
                before, behind = calls[:cut], calls[cut:]
                written = run(*before, save())[-1][1:]
                self.assertTrue(is_book(written))
                if cut and calls[cut - 1][0] in (4, 5) and whole[cut - 1][0] == 1:
                    self.assertEqual(run(*before, load(written), *behind)[cut:], [[-8]] + whole[cut:])
                    waiting += 1
                    continue
                for into in ([], before):
                    out = run(*into, load(written), *ASK, *behind, *ASK)[len(into):]
                    self.assertEqual(out, [[0]] + run(*before, *ASK, *behind, *ASK)[cut:], (first, cut))
                points += 1
        self.assertGreater(points, MANY)
        self.assertGreater(waiting, MANY // 4)

    def test_b5_runs_are_0(self):
        for first in range(0, MANY, 4):
            notebook = made_by_rule(first)
            Settled(notebook.line, [256])
            before = notebook.line.look(counts())[0]
            notebook.reload(False)
            self.assertEqual(notebook.line.look(counts())[0], before[:-1] + [0])

    def test_b5_saved_while_it_waits(self):
        points = 0
        for first in range(MANY):
            line = made_by_rule(first).line
            written = line.look(settle(0), save())[1]
            waits = line.look(settle(256), *ASK)
            if waits[0][0] != 1:
                continue
            self.assertEqual(waits[2], written)
            loaded = Line([load(written[1:])])
            self.assertEqual(loaded.look(*ASK), waits[1:])
            asked, again = Told(waits[0]), Told(loaded.look(settle(256))[0])
            self.assertEqual((again.answer, again.made, again.looked), (1, 0, []))
            self.assertEqual((again.name, again.text, again.values), (asked.name, asked.text, asked.values))
            line.say(settle(256))
            loaded.say(settle(256))
            answer = work(asked.text, asked.values)
            self.assertEqual(line.ask(answer), loaded.ask(answer))
            self.assertEqual(line.look(*ASK), loaded.look(*ASK))
            points += 1
        self.assertGreater(points, MANY // 4)

    def test_b5_what_is_saved_tells_the_cells(self):
        for first in range(MANY):
            notebook = made_by_rule(first)
            cells = read_cells(notebook.line.look(save())[0][1:])
            self.assertEqual([(one["name"].decode(), one["text"].decode(), [lean.decode() for lean in one["leans"]])
                              for one in cells],
                             [(name, notebook.cells[name][0], list(notebook.cells[name][1]))
                              for name in notebook.in_order()])
            self.assertEqual([one["stands"] for one in cells], [stand[0] for stand in notebook.stands().values()])

    def test_b6_settling_ends(self):
        for first in range(MANY):
            notebook = made_by_rule(first)
            settled = Settled(notebook.line, [256])
            self.assertLessEqual(len(settled.runs), len(notebook.cells))
            self.assertEqual(notebook.line.ask(ask_next()), [0, 0])
            self.assertEqual(notebook.line.ask(settle(256)), told(0, 0))

    def test_b6_full_book(self):
        # All 256 cells: a long chain that ends in a name without a cell, and another behind a bad cell.
        names = [f"n{number}" for number in range(256)]
        calls = [put(name, "", names[number + 1:number + 2]) for number, name in enumerate(names)]
        calls[255] = put("n255", "", ["gone"])
        calls[99] = put("n99", "x")
        looked = [(99, BAD)] + [(place, STUCK) for place in range(98, -1, -1)]
        looked += [(place, STUCK) for place in range(255, 99, -1)]
        self.assertEqual(last(*calls, settle(256), work(b"x", ())), told(0, 1, looked))

    def test_b6_every_cell_of_a_full_book_is_run(self):
        names = [f"n{number}" for number in range(256)]
        calls = [put(name, "", names[number + 1:number + 2]) for number, name in enumerate(names)]
        out = run(*calls, settle(256), *[came([number]) for number in range(256)], ask_next())
        self.assertEqual(out[256], told(1, 0, [], ("n255", "", [])))
        self.assertEqual(out[-2:], [told(0, 256, [(0, GOOD)]), [0, 0]])

    def test_next_tells_what_the_next_step_does(self):
        seen = set()
        for first in range(MANY):
            line = made_by_rule(first).line
            for count in range(20):
                choice, place = line.look(ask_next())[0]
                seen.add(choice)
                none_allowed = Told(line.look(settle(0))[0])
                one_allowed = Told(line.look(settle(1))[0])
                if choice == 0:
                    self.assertEqual((none_allowed.answer, none_allowed.looked), (0, []))
                    break
                if choice == 1:
                    self.assertEqual((none_allowed.answer, none_allowed.looked), (2, []))
                    self.assertEqual(line.look(settle(1), ask_next())[1], [1, place])
                    self.assertEqual(one_allowed.answer, 1)
                    answer = Told(line.ask(settle(1), work(one_allowed.text, one_allowed.values)))
                    self.assertEqual(answer.looked[0][0], place)
                if choice == 2:
                    self.assertEqual(none_allowed.looked[0][0], place)
                    line.say(settle(0))
                if choice == 3:
                    self.assertEqual(place, 0)
                    self.assertEqual({stand for where, stand in none_allowed.looked}, {STUCK})
                    self.assertEqual(none_allowed.answer, 0)
                    line.say(settle(0))
        self.assertEqual(seen, {0, 1, 2, 3})
