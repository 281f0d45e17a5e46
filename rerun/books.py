"""The calls on one book, one behind another, and their answers."""

from rerun.calls import read_call
from rerun.cells import Book
from rerun.changes import drop, put, touch
from rerun.loading import load
from rerun.questions import find_place, tell_counts, tell_leans, tell_state, tell_text, tell_users, tell_value
from rerun.reasons import tell_why
from rerun.saving import save
from rerun.settling import came, came_failed, settle, tell_next

CAME_VALUE = 0


class UnknownCall(ValueError):
    pass


def answer_came(book, call):
    if call.numbers[0] == CAME_VALUE:
        return came(book, call.texts[0])
    return came_failed(book, call.numbers[1])


def answer_call(book, call):
    if call.number == 1:
        return put(book, call.texts[0], call.texts[1], tuple(call.texts[2:]))
    if call.number == 2:
        return drop(book, call.texts[0])
    if call.number == 3:
        return touch(book, call.texts[0])
    if call.number == 4:
        return settle(book, call.numbers[0])
    if call.number == 5:
        return answer_came(book, call)
    if call.number == 6:
        return tell_next(book)
    if call.number == 7:
        return find_place(book, call.texts[0])
    if call.number == 8:
        return tell_state(book, call.numbers[0])
    if call.number == 9:
        return tell_value(book, call.numbers[0])
    if call.number == 10:
        return tell_text(book, call.numbers[0])
    if call.number == 11:
        return tell_leans(book, call.numbers[0])
    if call.number == 12:
        return tell_users(book, call.numbers[0])
    if call.number == 13:
        return tell_why(book, call.numbers[0])
    if call.number == 14:
        return tell_counts(book)
    if call.number == 15:
        return save(book)
    if call.number == 16:
        return load(book, call.texts[0])
    raise UnknownCall("no call has this number")


def answers(calls):
    book = Book()
    told = []
    at = 0
    while at < len(calls):
        call = read_call(calls, at)
        answer = answer_call(book, call)
        told.append(len(answer))
        told.extend(answer)
        at = call.behind
    return told
