"""Lines of calls for the tests, and what Python's own hashlib and hmac say of the same bytes."""

import hashlib
import hmac
import unittest

from longsums.desk import answers

NAMES = ("sha512", "sha384", "sha512_256")
SIZES = (64, 48, 32)
KINDS = (0, 1, 2)
WRONG_KINDS = (-1, 3, -2147483648, 2147483647)
WRONG_MADE = (0, 1025, 4294967295)
EDGES = (0, 1, 111, 112, 113, 127, 128, 129, 239, 240, 241, 255, 256, 257)

TOLD = [2]
DONE = [0]
REFUSED = [-2]

# Not every Python is built with SHA-512/256: tests/known.py holds fixed values for those that are not.
REFERENCE_KINDS = tuple(kind for kind in KINDS if NAMES[kind] in hashlib.algorithms_available)


def pattern(length):
    return [(31 * place + 7) % 256 for place in range(length)]


def init(kind):
    return [0, kind]


def add(data):
    return [1, len(data), len(data)] + data


def add_too_much(size):
    return [1, size, 0]


def mark(kind, key, data):
    return [3, kind, len(key)] + key + [len(data)] + data


def slow(kind, rounds, size, words, salt):
    return [4, kind, rounds, size, len(words)] + words + [len(salt)] + salt


def draw(kind, size, secret, salt, use):
    return [5, kind, size, len(secret)] + secret + [len(salt)] + salt + [len(use)] + use


def rows(kind, width, count, data):
    return [6, kind, width, count, len(data)] + data


def split(given):
    parts = []
    at = 0
    while at < len(given):
        size = given[at]
        part = given[at + 1:at + 1 + size]
        if size < 1 or len(part) != size:
            raise AssertionError(f"the count {size} at {at} does not fit")
        parts.append(part)
        at += 1 + size
    return parts


def asked(*calls):
    line = []
    for call in calls:
        line.extend(call)
    return split(answers(line))


def told(total):
    return [0] + list(total) + [0] * (64 - len(total))


def reference_sum(kind, data):
    return list(hashlib.new(NAMES[kind], bytes(data)).digest())


def reference_mark(kind, key, data):
    return list(hmac.new(bytes(key), bytes(data), NAMES[kind]).digest())


def reference_slow_by_marks(kind, rounds, size, words, salt):
    made = []
    place = 1
    while len(made) < size:
        last = reference_mark(kind, words, salt + list(place.to_bytes(4, "big")))
        mixed = int.from_bytes(last, "big")
        for _ in range(rounds - 1):
            last = reference_mark(kind, words, last)
            mixed ^= int.from_bytes(last, "big")
        made.extend(mixed.to_bytes(SIZES[kind], "big"))
        place += 1
    return made[:size]


def reference_slow(kind, rounds, size, words, salt):
    try:
        return list(hashlib.pbkdf2_hmac(NAMES[kind], bytes(words), bytes(salt), rounds, size))
    except ValueError:
        return reference_slow_by_marks(kind, rounds, size, words, salt)


def drawn_by(name, size, secret, salt, use):
    zeros = bytes(hashlib.new(name).digest_size)
    key = hmac.digest(bytes(salt) or zeros, bytes(secret), name)
    made = b""
    last = b""
    place = 1
    while len(made) < size:
        last = hmac.digest(key, last + bytes(use) + bytes([place]), name)
        made += last
        place += 1
    return list(made[:size])


def reference_draw(kind, size, secret, salt, use):
    return drawn_by(NAMES[kind], size, secret, salt, use)


def reference_pair(kind, left, right):
    return reference_sum(kind, [1] + left + right)


def reference_rows(kind, width, count, data):
    level = [reference_sum(kind, [0] + data[width * place:width * place + width]) for place in range(count)]
    while len(level) > 1:
        odd = [level.pop()] if len(level) % 2 else []
        level = [reference_pair(kind, left, right) for left, right in zip(level[::2], level[1::2])] + odd
    return level[0]


def first_difference(given, expected):
    for place, (one, other) in enumerate(zip(given, expected)):
        if one != other:
            return f"at {place}: given {str(one)[:300]}, expected {str(other)[:300]}"
    return f"given {len(given)} in all, expected {len(expected)}"


class LineTest(unittest.TestCase):
    def same(self, given, expected):
        # unittest's own comparison of long lists that differ may take hours over showing how.
        if given != expected:
            self.fail(first_difference(given, expected))
