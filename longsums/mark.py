"""HMAC (RFC 2104) with the sums of every kind."""

from longsums.row import Row, sum_of
from longsums.tables import BLOCK

INNER_PAD = 0x36
OUTER_PAD = 0x5C


def key_block(kind, key):
    short_key = sum_of(kind, key) if len(key) > BLOCK else key
    return short_key + [0] * (BLOCK - len(short_key))


def row_begun(kind, block, pad):
    row = Row(kind)
    row.add([byte ^ pad for byte in block])
    return row


# The key goes into two rows once and for all: sl_slow and sl_draw make many marks under one key.
class Marker:
    def __init__(self, kind, key):
        block = key_block(kind, key)
        self.inner = row_begun(kind, block, INNER_PAD)
        self.outer = row_begun(kind, block, OUTER_PAD)

    def mark(self, data):
        return self.outer.told_with(self.inner.told_with(data))


def mark_of(kind, key, data):
    return Marker(kind, key).mark(data)
