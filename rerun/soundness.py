"""Whether the cells of a book that was read can stand together as they do."""

from rerun.cells import cells_of
from rerun.leaning import are_good, is_any_open, sources_of, users_by_name, values_of, was_run_as_it_is
from rerun.signs import BAD, GOOD, OPEN, STUCK


# Whether a last run of its own text and names came to what a good or bad cell stands for.
def came_to_what_it_stands(cell):
    if cell.stands == GOOD:
        return was_run_as_it_is(cell) and cell.last.number == 0 and not cell.touched
    if cell.stands == BAD:
        return was_run_as_it_is(cell) and cell.last.number != 0 and not cell.touched
    return True


# Whether the cell may stand so beside those on which it leans; all good ones must have come to what they stand for.
def fits_its_sources(book, cell):
    sources = sources_of(book, cell)
    if cell.stands == OPEN:
        return True
    if is_any_open(sources):
        return False
    if cell.stands == STUCK:
        return not are_good(sources)
    return are_good(sources) and cell.last.given == values_of(sources)


# Whether good cells, which all lean on good ones alone, lean on one another in a ring.
# A bad cell stands in no such ring, as neither a good nor a bad one leans on it.
# Those are put aside that lean on none but such as were put aside before; a ring is never put aside.
def has_ring_of_good_cells(book):
    left = {}
    for cell in cells_of(book):
        if cell.stands == GOOD:
            left[cell.name] = len(cell.leans)
    aside = [name for name in left if left[name] == 0]
    users = users_by_name(book)
    at = 0
    while at < len(aside):
        for user in users.get(aside[at], []):
            if user in left:
                left[user] -= 1
                if left[user] == 0:
                    aside.append(user)
        at += 1
    return len(aside) < len(left)


def is_sound(book):
    cells = cells_of(book)
    # All of these first: the values that are looked at next are there only if each good cell has one.
    for cell in cells:
        if not came_to_what_it_stands(cell):
            return False
    for cell in cells:
        if not fits_its_sources(book, cell):
            return False
    return not has_ring_of_good_cells(book)
