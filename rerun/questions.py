"""The calls that only ask after cells: find, state."""

from rerun.names import is_name
from rerun.signs import BAD, GOOD, MALFORMED, MOST_CELLS, NO_CELL_THERE, NO_SUCH_CELL


def find_place(book, name):
    if not is_name(name):
        return [MALFORMED]
    cell = book.named.get(name)
    if cell is None:
        return [NO_SUCH_CELL]
    return [cell.place]


# Why there's nothing to tell of a place; None if a cell is there.
def refusal_of_place(book, place):
    if place >= MOST_CELLS:
        return MALFORMED
    if book.cells[place] is None:
        return NO_CELL_THERE
    return None


def tell_state(book, place):
    refusal = refusal_of_place(book, place)
    if refusal is not None:
        return [refusal]
    cell = book.cells[place]
    return [
        cell.stands,
        len(cell.text),
        len(cell.leans),
        0 if cell.last is None else 1,
        1 if cell.touched else 0,
        len(cell.last.value) if cell.stands == GOOD else 0,
        cell.last.number if cell.stands == BAD else 0,
    ]
