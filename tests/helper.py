"""Writing calls and books' bytes, reading answers, and a book that is talked to call by call."""

import re

from rerun.books import answers

OPEN, GOOD, BAD, STUCK = 0, 1, 2, 3
TOP_NUMBER = 2 ** 32 - 1
MARK = (76, 87, 75, 49)


def bytes_of(text):
    return list(text.encode("ascii")) if isinstance(text, str) else list(text)


def with_length(text):
    return [len(bytes_of(text))] + bytes_of(text)


def write(number, numbers=(), lists=()):
    call = [number, len(numbers), *numbers, len(lists)]
    for text in lists:
        call += with_length(text)
    return call


def put(name, text="", leans=()):
    return write(1, (), [name, text, *leans])


def drop(name):
    return write(2, (), [name])


def touch(name):
    return write(3, (), [name])


def settle(most):
    return write(4, [most])


def came(value):
    return write(5, [0], [value])


def failed(number):
    return write(5, [1, number])


def ask_next():
    return write(6)


def find(name):
    return write(7, (), [name])


def state(place):
    return write(8, [place])


def value(place):
    return write(9, [place])


def text_of(place):
    return write(10, [place])


def leans_of(place):
    return write(11, [place])


def users(place):
    return write(12, [place])


def why(place):
    return write(13, [place])


def counts():
    return write(14)


def save():
    return write(15)


def load(written):
    return write(16, (), [written])


def low_first(number, width):
    return list(number.to_bytes(width, "little"))


def with_long_length(text):
    return low_first(len(bytes_of(text)), 4) + bytes_of(text)


def with_count(names):
    return [len(names)] + sum(map(with_length, names), [])


def ran(text="", leans=(), values=(), value="", number=None):
    """A last run's bytes: a value came or, if there is one, the number."""
    out = [1] + with_long_length(text) + with_count(leans) + sum(map(with_long_length, values), [])
    return out + ([0] + with_long_length(value) if number is None else [1] + low_first(number, 4))


def cell(place, name, text="", leans=(), stands=OPEN, touched=0, last=(0,)):
    """A cell's bytes; the last run's are handed in as they stand."""
    head = [place] + with_length(name) + with_long_length(text) + with_count(leans)
    return head + [stands, touched] + list(last)


def book(*cells, many=None, mark=MARK):
    """A book's bytes."""
    return list(mark) + low_first(len(cells) if many is None else many, 2) + sum(cells, [])


def saved(*calls):
    """The bytes of the book that these calls make."""
    answer = last(*calls, save())
    assert answer[0] == 0
    return answer[1:]


class Reading:
    """Bytes that are read from the front; a ValueError where they are too few or not as they must be."""

    def __init__(self, written):
        self.left = bytes(written)

    def part(self, size, most):
        if size > min(most, len(self.left)):
            raise ValueError
        part, self.left = self.left[:size], self.left[size:]
        return part

    def number(self, width, most=TOP_NUMBER):
        number = int.from_bytes(self.part(width, 4), "little")
        if number > most:
            raise ValueError
        return number

    def name(self):
        name = self.part(self.number(1), 32)
        if not re.fullmatch(rb"[a-z][a-z0-9_]*", name):
            raise ValueError
        return name

    def names(self):
        return [self.name() for count in range(self.number(1, 8))]

    def text(self, most):
        return self.part(self.number(4), most)

    def last(self):
        if not self.number(1, 1):
            return None
        run = {"text": self.text(65536), "leans": self.names()}
        run["values"] = [self.text(16384) for name in run["leans"]]
        run["came"] = self.number(4) if self.number(1, 1) else self.text(16384)
        if run["came"] == 0:
            raise ValueError
        return run

    def cell(self):
        return {"place": self.number(1), "name": self.name(), "text": self.text(65536), "leans": self.names(),
                "stands": self.number(1, 3), "touched": self.number(1, 1), "last": self.last()}


def read_cells(written):
    """The cells of a book's bytes, each a dict; a ValueError if they aren't so made."""
    if bytes(written[:4]) != bytes(MARK):
        raise ValueError
    reading = Reading(written[4:])
    cells = [reading.cell() for count in range(reading.number(2, 256))]
    places, names = [cell["place"] for cell in cells], [cell["name"] for cell in cells]
    if reading.left or places != sorted(set(places)) or len(names) != len(set(names)):
        raise ValueError
    return cells


def stands_well(cell, named):
    """Whether the cell may stand so, by the document's words (but for rings)."""
    last, stands = cell["last"], cell["stands"]
    below = [named[name] if name in named else None for name in cell["leans"]]
    kinds = [None if source is None else source["stands"] for source in below]
    if stands == OPEN:
        return True
    if OPEN in kinds:
        return False
    if stands == STUCK:
        return None in kinds or BAD in kinds or STUCK in kinds
    if last is None or cell["touched"] or (last["text"], last["leans"]) != (cell["text"], cell["leans"]):
        return False
    if isinstance(last["came"], bytes) != (stands == GOOD) or set(kinds) - {GOOD}:
        return False
    return all(source["last"] and source["last"]["came"] == value for source, value in zip(below, last["values"]))


def is_book(written):
    """Whether bytes are a book's, reckoned by the document's words."""
    try:
        cells = read_cells(written)
    except ValueError:
        return False
    named = {cell["name"]: cell for cell in cells}
    if not all(stands_well(cell, named) for cell in cells):
        return False
    run = {cell["name"]: (None, cell["leans"]) for cell in cells if cell["stands"] in (GOOD, BAD)}
    return not any(name in reached(run, name) for name in run)


def reached(cells, name):
    """All names to which a chain of leaning leads from a cell, at least one step long; cells: name to (text, leans)."""
    out, left = set(), [name]
    while left:
        for lean in cells.get(left.pop(), (None, ()))[1]:
            if lean not in out:
                out.add(lean)
                left.append(lean)
    return out


def split(told):
    """The answers, each a list."""
    out, at = [], 0
    while at < len(told):
        out.append(told[at + 1:at + 1 + told[at]])
        assert len(out[-1]) == told[at] >= 1
        at += 1 + told[at]
    return out


def run(*calls):
    """The answers to these calls on a new book."""
    out = split(answers(sum(calls, [])))
    assert len(out) == len(calls)
    return out


def last(*calls):
    return run(*calls)[-1]


def told(answer, made, looked=(), wanted=None):
    """The answer of settle or came; looked: (place, stands); wanted: (name, text, values)."""
    out = [answer, made, len(looked)]
    for place, stands in looked:
        out += [place, stands]
    if wanted is not None:
        name, text, values = wanted
        for part in [name, text, *values]:
            out += with_length(part)
    return out


class Told:
    """An answer of settle or came, taken apart."""

    def __init__(self, answer):
        self.answer, self.made, many = answer[:3]
        at = 3 + 2 * many
        self.looked = list(zip(answer[3:at:2], answer[4:at:2]))
        parts = []
        while at < len(answer):
            parts.append(bytes(answer[at + 1:at + 1 + answer[at]]))
            at += 1 + answer[at]
        assert bool(parts) == (self.answer == 1)
        if parts:
            self.name, self.text, self.values = parts[0], parts[1], tuple(parts[2:])


class Line:
    """A book that is talked to call by call: each answer comes of the whole list so far."""

    def __init__(self, calls=()):
        self.calls = list(calls)

    def say(self, *calls):
        """Makes these calls without asking for their answers."""
        self.calls += calls

    def ask(self, *calls):
        self.calls += calls
        return run(*self.calls)[-1]

    def look(self, *calls):
        """The answers to these calls, which are then as if not made."""
        return run(*self.calls, *calls)[len(self.calls):]


def work(text, values):
    """Runs a cell by a rule: the same for the same text and values. Gives back the call.

    A text that begins with 'x' is bad; with 'k' always comes to one value; with 'p' comes to one of two values,
    so that a change below is often not seen above; any other shows all that it was run with.
    """
    if text[:1] == b"x":
        return failed(7 + len(text))
    if text[:1] == b"k":
        return came("k")
    if text[:1] == b"p":
        return came([sum(map(len, values)) % 2])
    shown = text + b"(" + b",".join(values) + b")"
    return came(shown if len(shown) <= 40 else shown[:30] + bytes([sum(shown) % 251, len(shown) % 241]))


class Settled:
    """One settling of a line to its end: what was looked at and run, in order, and how often it was begun."""

    def __init__(self, line, allowances):
        self.looked, self.runs, self.settlings = [], [], []
        for most in allowances:
            told_now = Told(line.ask(settle(most)))
            self.settlings.append([])
            self.looked += told_now.looked
            while told_now.answer == 1:
                self.settlings[-1].append(told_now.name)
                self.runs.append((told_now.name, told_now.text, told_now.values))
                told_now = Told(line.ask(work(told_now.text, told_now.values)))
                self.looked += told_now.looked
            assert told_now.made == len(self.settlings[-1]) <= most
            if told_now.answer == 0:
                return
        raise AssertionError("not settled")
