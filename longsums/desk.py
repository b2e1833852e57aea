"""The desk that takes a line of calls and gives back what each of them answers."""

from longsums.draw import drawn_bytes
from longsums.mark import mark_of
from longsums.reader import Reader
from longsums.row import Row, known_kind
from longsums.slow import slow_bytes
from longsums.tree import tree_sum

DONE = 0
REFUSED = -2

SL_INIT = 0
SL_ADD = 1
SL_TOLD = 2
SL_MARK = 3
SL_SLOW = 4
SL_DRAW = 5
SL_ROWS = 6

MOST_DATA = 65536
# A key, words, a secret, a salt and a use may each be as long as this.
MOST_KEY = 1024
MOST_MADE = 1024
MOST_ROUNDS = 65536
MOST_WIDTH = 256
MOST_COUNT = 256
TOLD_SIZE = 64


class UnknownCall(ValueError):
    pass


class Desk:
    def __init__(self):
        # Before the first sl_init there is nothing.
        self.row = None

    def answer_init(self, kind):
        if not known_kind(kind):
            return [REFUSED]
        self.row = Row(kind)
        return [DONE]

    def answer_add(self, size, data):
        if size > MOST_DATA:
            return [REFUSED]
        self.row.add(data)
        return [DONE]

    def answer_told(self):
        told = self.row.told()
        return [DONE] + told + [0] * (TOLD_SIZE - len(told))


def answer_mark(kind, key, data):
    if not known_kind(kind) or len(key) > MOST_KEY or len(data) > MOST_DATA:
        return [REFUSED]
    return [DONE] + mark_of(kind, key, data)


def answer_slow(kind, words, salt, rounds, size):
    if not known_kind(kind) or len(words) > MOST_KEY or len(salt) > MOST_KEY:
        return [REFUSED]
    if not 1 <= rounds <= MOST_ROUNDS or not 1 <= size <= MOST_MADE:
        return [REFUSED]
    return [DONE] + slow_bytes(kind, words, salt, rounds, size)


def answer_draw(kind, secret, salt, use, size):
    if not known_kind(kind) or not 1 <= size <= MOST_MADE:
        return [REFUSED]
    if len(secret) > MOST_KEY or len(salt) > MOST_KEY or len(use) > MOST_KEY:
        return [REFUSED]
    return [DONE] + drawn_bytes(kind, secret, salt, use, size)


def answer_rows(kind, width, count, rows):
    if not known_kind(kind) or width > MOST_WIDTH or not 1 <= count <= MOST_COUNT:
        return [REFUSED]
    return [DONE] + tree_sum(kind, width, count, rows)


def read_add(desk, reader):
    size = reader.number()
    data = reader.numbers()
    return desk.answer_add(size, data)


def read_mark(reader):
    kind = reader.number()
    key = reader.numbers()
    data = reader.numbers()
    return answer_mark(kind, key, data)


def read_slow(reader):
    kind = reader.number()
    rounds = reader.number()
    size = reader.number()
    words = reader.numbers()
    salt = reader.numbers()
    return answer_slow(kind, words, salt, rounds, size)


def read_draw(reader):
    kind = reader.number()
    size = reader.number()
    secret = reader.numbers()
    salt = reader.numbers()
    use = reader.numbers()
    return answer_draw(kind, secret, salt, use, size)


def read_rows(reader):
    kind = reader.number()
    width = reader.number()
    count = reader.number()
    rows = reader.numbers()
    return answer_rows(kind, width, count, rows)


def answer_next(desk, reader):
    call = reader.number()
    if call == SL_INIT:
        return desk.answer_init(reader.number())
    if call == SL_ADD:
        return read_add(desk, reader)
    if call == SL_TOLD:
        return desk.answer_told()
    if call == SL_MARK:
        return read_mark(reader)
    if call == SL_SLOW:
        return read_slow(reader)
    if call == SL_DRAW:
        return read_draw(reader)
    if call == SL_ROWS:
        return read_rows(reader)
    raise UnknownCall(f"no such call: {call}")


def answers(calls):
    desk = Desk()
    reader = Reader(calls)
    given = []
    while reader.has_more():
        answer = answer_next(desk, reader)
        given.append(len(answer))
        given.extend(answer)
    return given
