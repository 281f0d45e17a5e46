"""Which cell leans on which, and with what it was last run."""

from rerun.cells import cells_of
from rerun.signs import GOOD, OPEN


# The cells on which a cell leans, in order; None for a name that has no cell.
def sources_of(book, cell):
    return [book.named.get(lean) for lean in cell.leans]


def is_any_open(sources):
    for source in sources:
        if source is not None and source.stands == OPEN:
            return True
    return False


def are_good(sources):
    for source in sources:
        if source is None or source.stands != GOOD:
            return False
    return True


# The values of cells that are all good.
def values_of(sources):
    return tuple([source.last.value for source in sources])


# Whether the cell's last run had the text and the names that it has now.
def was_run_as_it_is(cell):
    last = cell.last
    return last is not None and last.text == cell.text and last.leans == cell.leans


# For each name that is leaned on, the names of the cells that lean on it, one as often as it does.
def users_by_name(book):
    users = {}
    for cell in cells_of(book):
        for lean in cell.leans:
            users.setdefault(lean, []).append(cell.name)
    return users


# These names, those of the cells that lean on them, those of the cells that lean on those, and so on.
def names_above(book, names):
    users = users_by_name(book)
    reached = []
    seen = {}
    for name in names:
        if name not in seen:
            seen[name] = True
            reached.append(name)
    at = 0
    while at < len(reached):
        for user in users.get(reached[at], []):
            if user not in seen:
                seen[user] = True
                reached.append(user)
        at += 1
    return seen
