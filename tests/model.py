"""A line that is written call by call, with what hashlib and hmac say that it answers."""

from lines import (
    DONE, KINDS, REFUSED, TOLD, add, add_too_much, draw, init, mark, reference_draw, reference_mark, reference_rows,
    reference_slow, reference_sum, rows, slow, told,
)


class Model:
    def __init__(self, kind):
        self.line = []
        self.calls = 0
        self.expected = []
        self.init(kind)

    def put(self, call, answer):
        self.line.extend(call)
        self.calls += 1
        self.expected.extend([len(answer)] + answer)

    def init(self, kind):
        if kind in KINDS:
            self.kind = kind
            self.row = []
        self.put(init(kind), DONE if kind in KINDS else REFUSED)

    def add(self, data):
        self.row = self.row + data
        self.put(add(data), DONE)

    def add_too_much(self, size):
        self.put(add_too_much(size), REFUSED)

    def told(self):
        self.put(TOLD, told(reference_sum(self.kind, self.row)))

    def mark(self, kind, key, data):
        good = kind in KINDS
        self.put(mark(kind, key, data), DONE + reference_mark(kind, key, data) if good else REFUSED)

    def slow(self, kind, rounds, size, words, salt):
        good = kind in KINDS and 1 <= rounds <= 65536 and 1 <= size <= 1024
        answer = DONE + reference_slow(kind, rounds, size, words, salt) if good else REFUSED
        self.put(slow(kind, rounds, size, words, salt), answer)

    def draw(self, kind, size, secret, salt, use):
        good = kind in KINDS and 1 <= size <= 1024
        answer = DONE + reference_draw(kind, size, secret, salt, use) if good else REFUSED
        self.put(draw(kind, size, secret, salt, use), answer)

    def rows(self, kind, width, count, data):
        good = kind in KINDS and width <= 256 and 1 <= count <= 256
        self.put(rows(kind, width, count, data), DONE + reference_rows(kind, width, count, data) if good else REFUSED)
