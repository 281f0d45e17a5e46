"""The calls that only ask after cells: find, state, value, text, leans, users, counts."""

from rerun.cells import cells_of
from rerun.names import is_name
from rerun.signs import BAD, GOOD, OPEN, STUCK
from rerun.signs import MALFORMED, MOST_CELLS, NOT_GOOD, NO_CELL_THERE, NO_SUCH_CELL, RUNS_TURN_OVER


def find_place(book, name):
    if not is_name(name):
        return [MALFORMED]
    cell = book.named.get(name)
    if cell is None:
        return [NO_SUCH_CELL]
    return [cell.place]


# Why there's nothing to tell of a place; None if a cell is there.
def refusal_of_place(book, place):
    if place >= MOST_CELLS:
        return MALFORMED
    if book.cells[place] is None:
        return NO_CELL_THERE
    return None


def tell_state(book, place):
    refusal = refusal_of_place(book, place)
    if refusal is not None:
        return [refusal]
    cell = book.cells[place]
    return [
        cell.stands,
        len(cell.text),
        len(cell.leans),
        0 if cell.last is None else 1,
        1 if cell.touched else 0,
        len(cell.last.value) if cell.stands == GOOD else 0,
        cell.last.number if cell.stands == BAD else 0,
    ]


def tell_value(book, place):
    refusal = refusal_of_place(book, place)
    if refusal is not None:
        return [refusal]
    cell = book.cells[place]
    if cell.stands != GOOD:
        return [NOT_GOOD]
    return [0] + list(cell.last.value)


def tell_text(book, place):
    refusal = refusal_of_place(book, place)
    if refusal is not None:
        return [refusal]
    return [0] + list(book.cells[place].text)


def tell_leans(book, place):
    refusal = refusal_of_place(book, place)
    if refusal is not None:
        return [refusal]
    told = [0]
    for lean in book.cells[place].leans:
        told.append(len(lean))
        told.extend(lean)
    return told


def tell_users(book, place):
    refusal = refusal_of_place(book, place)
    if refusal is not None:
        return [refusal]
    name = book.cells[place].name
    users = [cell.place for cell in cells_of(book) if name in cell.leans]
    return [len(users)] + users


def tell_counts(book):
    stands = [cell.stands for cell in cells_of(book)]
    counted = [stands.count(kind) for kind in (OPEN, GOOD, BAD, STUCK)]
    return [0, len(stands)] + counted + [book.runs % RUNS_TURN_OVER]
