"""How calls are written one behind another."""


# One call: its number, its whole numbers, its lists as tuples, and where the next call begins.
class Call:
    def __init__(self, number, numbers, texts, behind):
        self.number = number
        self.numbers = numbers
        self.texts = texts
        self.behind = behind


def read_call(calls, start):
    numbers_begin = start + 2
    numbers_end = numbers_begin + calls[start + 1]
    numbers = calls[numbers_begin:numbers_end]
    texts = []
    at = numbers_end + 1
    for count in range(calls[numbers_end]):
        end = at + 1 + calls[at]
        texts.append(tuple(calls[at + 1:end]))
        at = end
    return Call(calls[start], numbers, texts, at)
