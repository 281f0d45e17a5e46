"""The book, its cells and their last runs.

Texts, names and values are tuples of bytes: they never change, so that a last run can share them.
"""

from rerun.signs import MOST_CELLS, OPEN


# A cell's last run: what it was run with, and what came.
# The number is 0 if a value came; the value is empty if a number came.
class Run:
    def __init__(self, text, leans, given, value, number):
        self.text = text
        self.leans = leans
        self.given = given
        self.value = value
        self.number = number


class Cell:
    def __init__(self, place, name, text, leans):
        self.place = place
        self.name = name
        self.text = text
        self.leans = leans
        self.last = None
        self.touched = False
        self.stands = OPEN


# The cells by place (None where there is none) and by name, and the settling under way.
# `waiting` is the cell whose run is waited for, or None; `made` and `allowed` are the runs of this settling.
class Book:
    def __init__(self):
        self.cells = [None for place in range(MOST_CELLS)]
        self.named = {}
        self.runs = 0
        self.waiting = None
        self.made = 0
        self.allowed = 0


# All cells that there are, by rising places.
def cells_of(book):
    return [cell for cell in book.cells if cell is not None]


# The lowest place that no cell has; None if all are taken.
def lowest_free_place(book):
    for place in range(MOST_CELLS):
        if book.cells[place] is None:
            return place
    return None


def add_cell(book, cell):
    book.cells[cell.place] = cell
    book.named[cell.name] = cell


def remove_cell(book, cell):
    book.cells[cell.place] = None
    book.named.pop(cell.name)
