"""The calls that change which cells there are and what they say: put, drop, touch."""

from rerun.cells import Cell, add_cell, lowest_free_place, remove_cell
from rerun.leaning import names_above
from rerun.names import are_names, is_name
from rerun.signs import ALL_TAKEN, MALFORMED, MOST_LEANS, MOST_TEXT, NO_SUCH_CELL, OPEN, WRONG_TIME


# Opens a name: its cell, all cells that lean on it, all that lean on those, and so on.
def reopen(book, name):
    for reached in names_above(book, [name]):
        cell = book.named.get(reached)
        # A dropped name has no cell, but those that lean on it must be opened all the same.
        if cell is not None:
            cell.stands = OPEN


def can_be_put(name, text, leans):
    return is_name(name) and len(text) <= MOST_TEXT and len(leans) <= MOST_LEANS and are_names(leans)


def put(book, name, text, leans):
    if book.waiting is not None:
        return [WRONG_TIME]
    if not can_be_put(name, text, leans):
        return [MALFORMED]
    cell = book.named.get(name)
    if cell is None:
        place = lowest_free_place(book)
        if place is None:
            return [ALL_TAKEN]
        cell = Cell(place, name, text, leans)
        add_cell(book, cell)
    else:
        cell.text = text
        cell.leans = leans
    reopen(book, name)
    return [cell.place]


# Why the cell of that name can't be dropped or touched; None if it can.
def refusal_of_change(book, name):
    if book.waiting is not None:
        return WRONG_TIME
    if not is_name(name):
        return MALFORMED
    if name not in book.named:
        return NO_SUCH_CELL
    return None


def drop(book, name):
    refusal = refusal_of_change(book, name)
    if refusal is not None:
        return [refusal]
    cell = book.named[name]
    remove_cell(book, cell)
    reopen(book, name)
    return [cell.place]


def touch(book, name):
    refusal = refusal_of_change(book, name)
    if refusal is not None:
        return [refusal]
    cell = book.named[name]
    cell.touched = True
    reopen(book, name)
    return [cell.place]
