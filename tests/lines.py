"""Lines of calls for the tests, and what Python's own hashlib and hmac say of the same bytes."""

import hashlib
import hmac
import unittest

from longsums.desk import answers

NAMES = ("sha512", "sha384", "sha512_256")
SIZES = (64, 48, 32)
KINDS = (0, 1, 2)
WRONG_KINDS = (-1, 3, -2147483648, 2147483647)
EDGES = (0, 1, 111, 112, 113, 127, 128, 129, 239, 240, 241, 255, 256, 257)

TOLD = [2]
DONE = [0]
REFUSED = [-2]

# Not every Python is built with SHA-512/256: tests/known.py holds fixed values for those that are not.
REFERENCE_KINDS = tuple(kind for kind in KINDS if NAMES[kind] in hashlib.algorithms_available)


def pattern(length):
    return [(31 * place + 7) % 256 for place in range(length)]


def init(kind):
    return [0, kind]


def add(data):
    return [1, len(data), len(data)] + data


def add_too_much(size):
    return [1, size, 0]


def mark(kind, key, data):
    return [3, kind, len(key)] + key + [len(data)] + data


def split(given):
    parts = []
    at = 0
    while at < len(given):
        size = given[at]
        part = given[at + 1:at + 1 + size]
        if size < 1 or len(part) != size:
            raise AssertionError(f"the count {size} at {at} does not fit")
        parts.append(part)
        at += 1 + size
    return parts


def asked(*calls):
    line = []
    for call in calls:
        line.extend(call)
    return split(answers(line))


def told(total):
    return [0] + list(total) + [0] * (64 - len(total))


def reference_sum(kind, data):
    return list(hashlib.new(NAMES[kind], bytes(data)).digest())


def reference_mark(kind, key, data):
    return list(hmac.new(bytes(key), bytes(data), NAMES[kind]).digest())


def first_difference(given, expected):
    for place, (one, other) in enumerate(zip(given, expected)):
        if one != other:
            return f"at {place}: given {str(one)[:300]}, expected {str(other)[:300]}"
    return f"given {len(given)} in all, expected {len(expected)}"


class LineTest(unittest.TestCase):
    def same(self, given, expected):
        # unittest's own comparison of long lists that differ may take hours over showing how.
        if given != expected:
            self.fail(first_difference(given, expected))
