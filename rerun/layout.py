"""How a book's bytes are laid out: the mark they begin with, and in how many bytes each number is written."""

BOOK_MARK = (76, 87, 75, 49)

MARK_BYTES = 4
CELLS_BYTES = 2
SHORT_BYTES = 1
LONG_BYTES = 4
