"""A row of bytes of a kind, and its sum."""

from longsums.blocks import all_stirred
from longsums.tables import BLOCK, SIZES, STARTS


def known_kind(kind):
    return 0 <= kind < len(SIZES)


def big_end_first(number, size):
    return [(number >> (8 * place)) & 255 for place in range(size - 1, -1, -1)]


def padding(length):
    # The byte 128 and the 16 bytes of the length must always fit in: 17 bytes of the last block are theirs.
    zeros = (BLOCK - 17 - length) % BLOCK
    return [128] + [0] * zeros + big_end_first(8 * length, 16)


# Whole blocks are stirred in as they come, so that asking for the sum again and again stays cheap.
class Row:
    def __init__(self, kind):
        self.kind = kind
        self.words = list(STARTS[kind])
        self.rest = []
        self.length = 0

    def add(self, data):
        waiting = self.rest + data
        whole = len(waiting) - len(waiting) % BLOCK
        self.words = all_stirred(self.words, waiting[:whole])
        self.rest = waiting[whole:]
        self.length = self.length + len(data)

    def told_with(self, data):
        # What is told is the sum as if data stood behind the row. It goes into words of its own, so that the row
        # stays: more bytes may be added afterwards, and a key's blocks need not be stirred again for each mark.
        ending = self.rest + data + padding(self.length + len(data))
        answer = []
        for word in all_stirred(self.words, ending):
            answer.extend(big_end_first(word, 8))
        return answer[:SIZES[self.kind]]

    def told(self):
        return self.told_with([])


def sum_of(kind, data):
    return Row(kind).told_with(data)
