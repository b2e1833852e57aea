"""PBKDF2 (RFC 8018) with HMAC of every kind."""

from longsums.mark import Marker
from longsums.row import big_end_first


def slow_part(marker, salt, rounds, place):
    last = marker.mark(salt + big_end_first(place, 4))
    mixed = last
    for turn in range(1, rounds):
        last = marker.mark(last)
        mixed = [one ^ other for one, other in zip(mixed, last)]
    return mixed


def slow_bytes(kind, words, salt, rounds, size):
    marker = Marker(kind, words)
    given = []
    place = 0
    while len(given) < size:
        # RFC 8018 counts its parts from 1.
        place = place + 1
        given.extend(slow_part(marker, salt, rounds, place))
    return given[:size]
