"""Settling: which step is next, and the calls settle, came and next."""

from rerun.cells import Run, cells_of
from rerun.leaning import are_good, is_any_open, sources_of, values_of, was_run_as_it_is
from rerun.signs import BAD, GOOD, MALFORMED, MOST_NUMBER, MOST_VALUE, OPEN, STUCK, WRONG_TIME

ENDED = 0
WAITS = 1
STOPPED = 2

NONE_OPEN = 0
MUST_RUN = 1
WITHOUT_RUN = 2
NONE_READY = 3


# What the next step would be, and the cell that it takes (None if it takes none).
class Step:
    def __init__(self, choice, cell):
        self.choice = choice
        self.cell = cell


# By place. Looked up once a call, as no name gains or loses its cell while a settling goes on.
def sources_of_open_cells(book):
    sources = {}
    for cell in cells_of(book):
        if cell.stands == OPEN:
            sources[cell.place] = sources_of(book, cell)
    return sources


# Whether taking the cell, which can be taken, means running it.
def must_run(cell, sources):
    if not are_good(sources):
        return False
    return cell.touched or not was_run_as_it_is(cell) or cell.last.given != values_of(sources)


def next_step(book, sources):
    any_open = False
    for cell in book.cells:
        if cell is not None and cell.stands == OPEN:
            any_open = True
            if not is_any_open(sources[cell.place]):
                choice = MUST_RUN if must_run(cell, sources[cell.place]) else WITHOUT_RUN
                return Step(choice, cell)
    return Step(NONE_READY if any_open else NONE_OPEN, None)


def stand_by_last_run(cell):
    cell.stands = GOOD if cell.last.number == 0 else BAD


def take_without_run(cell, sources):
    if are_good(sources):
        stand_by_last_run(cell)
    else:
        cell.stands = STUCK


# All open cells become stuck; gives them back by rising places.
def stick_open_cells(book):
    stuck = [cell for cell in cells_of(book) if cell.stands == OPEN]
    for cell in stuck:
        cell.stands = STUCK
    return stuck


def report(answer, book, looked):
    told = [answer, book.made, len(looked)]
    for cell in looked:
        told.append(cell.place)
        told.append(cell.stands)
    return told


# What is asked for a run: the name, the text and the values, each with its length before it.
def wanted(cell, sources):
    told = []
    for text in [cell.name, cell.text] + [source.last.value for source in sources]:
        told.append(len(text))
        told.extend(text)
    return told


# Goes step by step until the settling has ended, waits or stops; `looked` are the cells looked at before.
def go_on(book, looked):
    sources = sources_of_open_cells(book)
    while True:
        step = next_step(book, sources)
        if step.choice == NONE_OPEN:
            return report(ENDED, book, looked)
        if step.choice == MUST_RUN:
            if book.made >= book.allowed:
                return report(STOPPED, book, looked)
            book.waiting = step.cell
            return report(WAITS, book, looked) + wanted(step.cell, sources[step.cell.place])
        if step.choice == WITHOUT_RUN:
            take_without_run(step.cell, sources[step.cell.place])
            looked.append(step.cell)
        else:
            looked.extend(stick_open_cells(book))


def settle(book, most):
    if book.waiting is not None:
        return [WRONG_TIME]
    book.made = 0
    book.allowed = most
    return go_on(book, [])


def end_run(book, value, number):
    cell = book.waiting
    # Nothing can change while the book waits: what the cell was asked with is what it has now.
    given = values_of(sources_of(book, cell))
    cell.last = Run(cell.text, cell.leans, given, value, number)
    cell.touched = False
    stand_by_last_run(cell)
    book.waiting = None
    book.made += 1
    book.runs += 1
    return go_on(book, [cell])


def came(book, value):
    if book.waiting is None:
        return [WRONG_TIME]
    if len(value) > MOST_VALUE:
        return end_run(book, (), MOST_NUMBER)
    return end_run(book, value, 0)


def came_failed(book, number):
    if book.waiting is None:
        return [WRONG_TIME]
    if number < 1 or number > MOST_NUMBER:
        return [MALFORMED]
    return end_run(book, (), number)


def tell_next(book):
    # A book that waits is still the book before that step, so the step found is the one waited for.
    step = next_step(book, sources_of_open_cells(book))
    return [step.choice, 0 if step.cell is None else step.cell.place]
