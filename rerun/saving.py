"""Writing a book's bytes: the call save."""

from rerun.cells import cells_of
from rerun.layout import BOOK_MARK, CELLS_BYTES, LONG_BYTES, SHORT_BYTES


# The lowest byte first.
def write_number(number, width):
    written = []
    rest = number
    for count in range(width):
        written.append(rest % 256)
        rest = rest // 256
    return written


def write_text(text, width):
    return write_number(len(text), width) + list(text)


def write_names(names):
    written = write_number(len(names), SHORT_BYTES)
    for name in names:
        written.extend(write_text(name, SHORT_BYTES))
    return written


def write_what_came(last):
    if last.number == 0:
        return [0] + write_text(last.value, LONG_BYTES)
    return [1] + write_number(last.number, LONG_BYTES)


def write_last_run(last):
    if last is None:
        return [0]
    written = [1] + write_text(last.text, LONG_BYTES) + write_names(last.leans)
    for value in last.given:
        written.extend(write_text(value, LONG_BYTES))
    return written + write_what_came(last)


def write_cell(cell):
    written = [cell.place] + write_text(cell.name, SHORT_BYTES) + write_text(cell.text, LONG_BYTES)
    written.extend(write_names(cell.leans))
    written.append(cell.stands)
    written.append(1 if cell.touched else 0)
    return written + write_last_run(cell.last)


def save(book):
    # A book that waits is still the book before that step, so it is written as it is.
    cells = cells_of(book)
    told = [0] + list(BOOK_MARK) + write_number(len(cells), CELLS_BYTES)
    for cell in cells:
        told.extend(write_cell(cell))
    return told
