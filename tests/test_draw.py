"""Promise 5: sl_draw answers HKDF, n bytes of a secret, a salt and a use."""

import unittest

from known import SHORT_DRAWN
from lines import (
    LineTest, DONE, KINDS, REFERENCE_KINDS, REFUSED, SIZES, TOLD, WRONG_KINDS, WRONG_MADE, add, asked, draw, drawn_by,
    init, pattern, reference_draw, reference_sum, told,
)

SECRET = pattern(22)
SALT = pattern(30)[17:]
USE = pattern(50)[40:]
LENGTHS = (0, 1, 20, 127, 128, 129, 1024)


def sizes_about(kind):
    own = SIZES[kind]
    return (1, 2, own - 1, own, own + 1, 2 * own - 1, 2 * own, 2 * own + 1, 5 * own + 3, 1023, 1024)


class DrawTest(LineTest):
    def check(self, kind, size, secret, salt, use):
        given = asked(init(0), draw(kind, size, secret, salt, use))
        self.same(given, [DONE, [0] + reference_draw(kind, size, secret, salt, use)])

    def check_refused(self, kind, size, secret, salt, use):
        # The call behind the refused one shows that the refused one was read to its end.
        given = asked(init(1), add([5]), draw(kind, size, secret, salt, use), TOLD)
        self.same(given, [DONE, DONE, REFUSED, told(reference_sum(1, [5]))])

    def test_fixed_values_of_the_short_kind(self):
        for size, secret, salt, use, made in SHORT_DRAWN:
            with self.subTest(size=size, secret=secret, salt=salt, use=use):
                given = asked(init(0), draw(2, size, pattern(secret), pattern(salt), pattern(use)))
                self.same(given, [DONE, [0] + list(bytes.fromhex(made))])

    def test_the_reference_reckons_as_rfc_5869_does(self):
        # The RFC's own examples are of a sum that the program doesn't have: they hold the reference alone. The bytes
        # were written out by hmac and compared with the RFC's from memory, not copied from its page.
        self.same(
            bytes(drawn_by("sha256", 42, [0x0B] * 22, list(range(13)), list(range(0xF0, 0xFA)))).hex(),
            "3cb25f25faacd57a90434f64d0362f2a2d2d0a90cf1a5a4c5db02d56ecc4c5bf34007208d5b887185865",
        )
        self.same(
            bytes(drawn_by("sha256", 42, [0x0B] * 22, [], [])).hex(),
            "8da4e775a563c18f715f802a063c5a31b8a11f5c5ee1879ec3454e5f3c738d2d9d201395faa4b61a96c8",
        )

    def test_sizes(self):
        for kind in REFERENCE_KINDS:
            for size in sizes_about(kind):
                with self.subTest(kind=kind, size=size):
                    self.check(kind, size, SECRET, SALT, USE)
                    self.check(kind, size, SECRET, [], [])

    def test_every_number_of_parts(self):
        for kind in REFERENCE_KINDS:
            for size in range(SIZES[kind], 1025, SIZES[kind]):
                with self.subTest(kind=kind, size=size):
                    self.check(kind, size, SECRET, SALT, USE)

    def test_lists_of_many_lengths(self):
        for kind in REFERENCE_KINDS:
            for secret in LENGTHS:
                for salt in LENGTHS:
                    for use in LENGTHS:
                        with self.subTest(kind=kind, secret=secret, salt=salt, use=use):
                            self.check(
                                kind, SIZES[kind] + 1, pattern(secret), pattern(salt + 3)[3:], pattern(use + 5)[5:],
                            )

    def test_most_of_everything(self):
        for kind in REFERENCE_KINDS:
            with self.subTest(kind=kind):
                self.check(kind, 1024, pattern(1024), pattern(1025)[1:], pattern(1026)[2:])

    def test_nothing_of_everything(self):
        for kind in REFERENCE_KINDS:
            for size in (1, SIZES[kind], 1024):
                with self.subTest(kind=kind, size=size):
                    self.check(kind, size, [], [], [])

    def test_no_salt_is_as_many_zeros_as_the_kind_has(self):
        for kind in KINDS:
            for secret, use in ((SECRET, USE), ([], []), (pattern(200), [])):
                with self.subTest(kind=kind, secret=len(secret)):
                    given = asked(
                        init(0), draw(kind, 100, secret, [], use), draw(kind, 100, secret, [0] * SIZES[kind], use),
                    )
                    self.same(given[1], given[2])

    def test_secret_salt_and_use_are_told_apart(self):
        lists = ([1], [2], [3])
        for kind in REFERENCE_KINDS:
            for secret in lists:
                for salt in lists:
                    for use in lists:
                        with self.subTest(kind=kind, secret=secret, salt=salt, use=use):
                            self.check(kind, 70, secret, salt, use)

    def test_fewer_bytes_are_the_first_of_more(self):
        for kind in KINDS:
            most = asked(init(0), draw(kind, 1024, SECRET, SALT, USE))[1]
            for size in sizes_about(kind):
                with self.subTest(kind=kind, size=size):
                    self.same(asked(init(0), draw(kind, size, SECRET, SALT, USE))[1], most[:1 + size])

    def test_a_wrong_kind_is_refused(self):
        for wrong in WRONG_KINDS:
            for part in ([], [2, 2, 0], pattern(1024)):
                for size in (1, 64, 1024):
                    with self.subTest(wrong=wrong, length=len(part), size=size):
                        self.check_refused(wrong, size, part, part, part)

    def test_a_wrong_size_is_refused(self):
        for kind in KINDS + WRONG_KINDS:
            for wrong in WRONG_MADE:
                for part in ([], [2, 2, 0], pattern(1024)):
                    with self.subTest(kind=kind, wrong=wrong, length=len(part)):
                        self.check_refused(kind, wrong, part, part, part)

    def test_the_bounds_beyond_what_is_handed_in(self):
        # Lists of this length are not handed in, but the promise's own bounds stand by themselves.
        self.check_refused(0, 1, pattern(1025), SALT, USE)
        self.check_refused(0, 1, SECRET, pattern(1025), USE)
        self.check_refused(0, 1, SECRET, SALT, pattern(1025))


if __name__ == "__main__":
    unittest.main()
