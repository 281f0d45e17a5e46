"""Writing calls, reading answers, and a book that is talked to call by call."""

from rerun.books import answers

OPEN, GOOD, BAD, STUCK = 0, 1, 2, 3
TOP_NUMBER = 2 ** 32 - 1


def bytes_of(text):
    return list(text.encode("ascii")) if isinstance(text, str) else list(text)


def with_length(text):
    return [len(bytes_of(text))] + bytes_of(text)


def write(number, numbers=(), lists=()):
    call = [number, len(numbers), *numbers, len(lists)]
    for text in lists:
        call += with_length(text)
    return call


def put(name, text="", leans=()):
    return write(1, (), [name, text, *leans])


def drop(name):
    return write(2, (), [name])


def touch(name):
    return write(3, (), [name])


def settle(most):
    return write(4, [most])


def came(value):
    return write(5, [0], [value])


def failed(number):
    return write(5, [1, number])


def ask_next():
    return write(6)


def find(name):
    return write(7, (), [name])


def state(place):
    return write(8, [place])


def split(told):
    """The answers, each a list."""
    out, at = [], 0
    while at < len(told):
        out.append(told[at + 1:at + 1 + told[at]])
        assert len(out[-1]) == told[at] >= 1
        at += 1 + told[at]
    return out


def run(*calls):
    """The answers to these calls on a new book."""
    out = split(answers(sum(calls, [])))
    assert len(out) == len(calls)
    return out


def last(*calls):
    return run(*calls)[-1]


def told(answer, made, looked=(), wanted=None):
    """The answer of settle or came; looked: (place, stands); wanted: (name, text, values)."""
    out = [answer, made, len(looked)]
    for place, stands in looked:
        out += [place, stands]
    if wanted is not None:
        name, text, values = wanted
        for part in [name, text, *values]:
            out += with_length(part)
    return out


class Told:
    """An answer of settle or came, taken apart."""

    def __init__(self, answer):
        self.answer, self.made, many = answer[:3]
        at = 3 + 2 * many
        self.looked = list(zip(answer[3:at:2], answer[4:at:2]))
        parts = []
        while at < len(answer):
            parts.append(bytes(answer[at + 1:at + 1 + answer[at]]))
            at += 1 + answer[at]
        assert bool(parts) == (self.answer == 1)
        if parts:
            self.name, self.text, self.values = parts[0], parts[1], tuple(parts[2:])


class Line:
    """A book that is talked to call by call: each answer comes of the whole list so far."""

    def __init__(self, calls=()):
        self.calls = list(calls)

    def say(self, *calls):
        """Makes these calls without asking for their answers."""
        self.calls += calls

    def ask(self, *calls):
        self.calls += calls
        return run(*self.calls)[-1]

    def look(self, *calls):
        """The answers to these calls, which are then as if not made."""
        return run(*self.calls, *calls)[len(self.calls):]


def work(text, values):
    """Runs a cell by a rule: the same for the same text and values. Gives back the call.

    A text that begins with 'x' is bad; with 'k' always comes to one value; with 'p' comes to one of two values,
    so that a change below is often not seen above; any other shows all that it was run with.
    """
    if text[:1] == b"x":
        return failed(7 + len(text))
    if text[:1] == b"k":
        return came("k")
    if text[:1] == b"p":
        return came([sum(map(len, values)) % 2])
    shown = text + b"(" + b",".join(values) + b")"
    return came(shown if len(shown) <= 40 else shown[:30] + bytes([sum(shown) % 251, len(shown) % 241]))


class Settled:
    """One settling of a line to its end: what was looked at and run, in order, and how often it was begun."""

    def __init__(self, line, allowances):
        self.looked, self.runs, self.settlings = [], [], []
        for most in allowances:
            told_now = Told(line.ask(settle(most)))
            self.settlings.append([])
            self.looked += told_now.looked
            while told_now.answer == 1:
                self.settlings[-1].append(told_now.name)
                self.runs.append((told_now.name, told_now.text, told_now.values))
                told_now = Told(line.ask(work(told_now.text, told_now.values)))
                self.looked += told_now.looked
            assert told_now.made == len(self.settlings[-1]) <= most
            if told_now.answer == 0:
                return
        raise AssertionError("not settled")
