"""Reading a book's bytes: the call load."""

from rerun.cells import Book, Cell, Run, add_cell
from rerun.layout import BOOK_MARK, CELLS_BYTES, LONG_BYTES, MARK_BYTES, SHORT_BYTES
from rerun.names import is_name
from rerun.signs import MOST_LEANS, MOST_NAME, MOST_TEXT, MOST_VALUE, NO_BOOK, STUCK, WRONG_TIME
from rerun.soundness import is_sound


class NoBook(ValueError):
    pass


# The bytes that are read, and where the next one stands.
class Reader:
    def __init__(self, written):
        self.written = written
        self.at = 0


def take(reader, length):
    end = reader.at + length
    if end > len(reader.written):
        raise NoBook("the bytes are cut short")
    taken = reader.written[reader.at:end]
    reader.at = end
    return taken


def take_number(reader, width):
    number = 0
    for byte in reversed(take(reader, width)):
        number = number * 256 + byte
    return number


def take_number_up_to(reader, width, most):
    number = take_number(reader, width)
    if number > most:
        raise NoBook("a number is too high")
    return number


def take_mark(reader):
    return take_number_up_to(reader, SHORT_BYTES, 1) == 1


def take_text(reader, width, most):
    return take(reader, take_number_up_to(reader, width, most))


def take_name(reader):
    name = take_text(reader, SHORT_BYTES, MOST_NAME)
    if not is_name(name):
        raise NoBook("a name is none")
    return name


def take_names(reader):
    many = take_number_up_to(reader, SHORT_BYTES, MOST_LEANS)
    return tuple([take_name(reader) for count in range(many)])


def take_value(reader):
    return take_text(reader, LONG_BYTES, MOST_VALUE)


def take_last_run(reader):
    if not take_mark(reader):
        return None
    text = take_text(reader, LONG_BYTES, MOST_TEXT)
    leans = take_names(reader)
    given = tuple([take_value(reader) for lean in leans])
    if not take_mark(reader):
        return Run(text, leans, given, take_value(reader), 0)
    number = take_number(reader, LONG_BYTES)
    if number == 0:
        raise NoBook("the number that came is 0")
    return Run(text, leans, given, (), number)


def take_cell(reader):
    place = take_number(reader, SHORT_BYTES)
    name = take_name(reader)
    text = take_text(reader, LONG_BYTES, MOST_TEXT)
    cell = Cell(place, name, text, take_names(reader))
    cell.stands = take_number_up_to(reader, SHORT_BYTES, STUCK)
    cell.touched = take_mark(reader)
    cell.last = take_last_run(reader)
    return cell


# There can't be too many cells, as their places rise and are one byte each.
def take_cells(reader, book):
    lowest = 0
    for count in range(take_number(reader, CELLS_BYTES)):
        cell = take_cell(reader)
        if cell.place < lowest or cell.name in book.named:
            raise NoBook("places don't rise, or two names are alike")
        add_cell(book, cell)
        lowest = cell.place + 1


def read_book(written):
    reader = Reader(written)
    book = Book()
    if take(reader, MARK_BYTES) != BOOK_MARK:
        raise NoBook("the first bytes are wrong")
    take_cells(reader, book)
    if reader.at < len(written):
        raise NoBook("there are bytes behind the end")
    if not is_sound(book):
        raise NoBook("a cell can't stand so")
    return book


def load(book, written):
    if book.waiting is not None:
        return [WRONG_TIME]
    try:
        loaded = read_book(written)
    except NoBook:
        return [NO_BOOK]
    book.cells = loaded.cells
    book.named = loaded.named
    book.runs = 0
    return [0]
