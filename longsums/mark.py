"""HMAC (RFC 2104) with the sums of every kind."""

from longsums.row import sum_of
from longsums.tables import BLOCK

INNER_PAD = 0x36
OUTER_PAD = 0x5C


def key_block(kind, key):
    short_key = sum_of(kind, key) if len(key) > BLOCK else key
    return short_key + [0] * (BLOCK - len(short_key))


def padded(block, pad):
    return [byte ^ pad for byte in block]


def mark_of(kind, key, data):
    block = key_block(kind, key)
    inner = sum_of(kind, padded(block, INNER_PAD) + data)
    return sum_of(kind, padded(block, OUTER_PAD) + inner)
