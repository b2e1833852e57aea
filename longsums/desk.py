"""The desk that takes a line of calls and gives back what each of them answers."""

from longsums.mark import mark_of
from longsums.reader import Reader
from longsums.row import Row, known_kind

DONE = 0
REFUSED = -2

SL_INIT = 0
SL_ADD = 1
SL_TOLD = 2
SL_MARK = 3

MOST_DATA = 65536
MOST_KEY = 1024
TOLD_SIZE = 64


class UnknownCall(ValueError):
    pass


class Desk:
    def __init__(self):
        # Before the first sl_init there is nothing.
        self.row = None

    def answer_init(self, kind):
        if not known_kind(kind):
            return [REFUSED]
        self.row = Row(kind)
        return [DONE]

    def answer_add(self, size, data):
        if size > MOST_DATA:
            return [REFUSED]
        self.row.add(data)
        return [DONE]

    def answer_told(self):
        told = self.row.told()
        return [DONE] + told + [0] * (TOLD_SIZE - len(told))


def answer_mark(kind, key, data):
    if not known_kind(kind) or len(key) > MOST_KEY or len(data) > MOST_DATA:
        return [REFUSED]
    return [DONE] + mark_of(kind, key, data)


def read_add(desk, reader):
    size = reader.number()
    data = reader.numbers()
    return desk.answer_add(size, data)


def read_mark(reader):
    kind = reader.number()
    key = reader.numbers()
    data = reader.numbers()
    return answer_mark(kind, key, data)


def answer_next(desk, reader):
    call = reader.number()
    if call == SL_INIT:
        return desk.answer_init(reader.number())
    if call == SL_ADD:
        return read_add(desk, reader)
    if call == SL_TOLD:
        return desk.answer_told()
    if call == SL_MARK:
        return read_mark(reader)
    raise UnknownCall(f"no such call: {call}")


def answers(calls):
    desk = Desk()
    reader = Reader(calls)
    given = []
    while reader.has_more():
        answer = answer_next(desk, reader)
        given.append(len(answer))
        given.extend(answer)
    return given
