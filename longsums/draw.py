"""HKDF (RFC 5869) with HMAC of every kind."""

from longsums.mark import Marker, mark_of


def drawn_bytes(kind, secret, salt, use, size):
    # A salt of no bytes needs no zeros of its own here: HMAC fills every short key with zeros to a whole block.
    marker = Marker(kind, mark_of(kind, salt, secret))
    given = []
    last = []
    place = 0
    while len(given) < size:
        # RFC 5869 counts its parts from 1, in one byte: 1024 bytes are 32 parts at most.
        place = place + 1
        last = marker.mark(last + use + [place])
        given.extend(last)
    return given[:size]
