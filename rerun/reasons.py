"""Why a cell is stuck: the call why."""

from rerun.cells import cells_of
from rerun.leaning import names_above, sources_of
from rerun.questions import refusal_of_place
from rerun.signs import BAD, STUCK

NOT_STUCK = 0
NAME_WITHOUT_CELL = 1
NOT_BY_RINGS_ALONE = 2
BY_RINGS_ALONE = 3


# The names that are bad, stuck not by rings alone, or without a cell: those from which a chain of leaning,
# of none or more steps, leads to a bad cell or to a name without a cell.
# Nothing open or good stands between, as a stuck cell leans on none that is open, and a good one on good ones alone.
def spoiled_names(book):
    causes = []
    for cell in cells_of(book):
        if cell.stands == BAD:
            causes.append(cell.name)
        for lean in cell.leans:
            if lean not in book.named:
                causes.append(lean)
    return names_above(book, causes)


def tell_why(book, place):
    refusal = refusal_of_place(book, place)
    if refusal is not None:
        return [refusal]
    cell = book.cells[place]
    if cell.stands != STUCK:
        return [NOT_STUCK, 0, 0]
    sources = sources_of(book, cell)
    without_cell = [source is None for source in sources]
    if True in without_cell:
        return [NAME_WITHOUT_CELL, without_cell.index(True), 0]
    spoiled = spoiled_names(book)
    are_spoiled = [lean in spoiled for lean in cell.leans]
    if True in are_spoiled:
        number = are_spoiled.index(True)
        return [NOT_BY_RINGS_ALONE, number, sources[number].place]
    number = [source.stands for source in sources].index(STUCK)
    return [BY_RINGS_ALONE, number, sources[number].place]
