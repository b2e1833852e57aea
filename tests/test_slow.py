"""Promise 4: sl_slow answers PBKDF2 with HMAC, n bytes of words and salt, after so many rounds."""

import unittest

from known import SHORT_SLOW, SLOW_TEXTS
from lines import (
    LineTest, DONE, KINDS, REFERENCE_KINDS, REFUSED, SIZES, TOLD, WRONG_KINDS, WRONG_MADE, add, asked, init, pattern,
    reference_slow, reference_slow_by_marks, reference_sum, slow, told,
)

WORDS = pattern(9)
SALT = pattern(16)[8:]
LENGTHS = (0, 1, 127, 128, 129, 1024)
WRONG_ROUNDS = (0, 65537, 4294967295)


def sizes_about(kind):
    own = SIZES[kind]
    return (1, 2, own - 1, own, own + 1, 2 * own - 1, 2 * own, 2 * own + 1, 5 * own + 3)


class SlowTest(LineTest):
    def check(self, kind, rounds, size, words, salt):
        given = asked(init(0), slow(kind, rounds, size, words, salt))
        self.same(given, [DONE, [0] + reference_slow(kind, rounds, size, words, salt)])

    def check_refused(self, kind, rounds, size, words, salt):
        # The call behind the refused one shows that the refused one was read to its end.
        given = asked(init(1), add([5]), slow(kind, rounds, size, words, salt), TOLD)
        self.same(given, [DONE, DONE, REFUSED, told(reference_sum(1, [5]))])

    def test_fixed_values_of_texts(self):
        for words, salt, rounds, totals in SLOW_TEXTS:
            for kind in KINDS:
                with self.subTest(words=words, rounds=rounds, kind=kind):
                    line = slow(kind, rounds, SIZES[kind], list(words.encode()), list(salt.encode()))
                    self.same(asked(init(0), line), [DONE, [0] + list(bytes.fromhex(totals[kind]))])

    def test_fixed_values_of_the_short_kind(self):
        for rounds, size, words, salt, made in SHORT_SLOW:
            with self.subTest(rounds=rounds, size=size, words=words, salt=salt):
                given = asked(init(0), slow(2, rounds, size, pattern(words), pattern(salt)))
                self.same(given, [DONE, [0] + list(bytes.fromhex(made))])

    def test_rounds_and_sizes(self):
        for kind in REFERENCE_KINDS:
            for rounds in (1, 2, 3, 300):
                for size in sizes_about(kind):
                    with self.subTest(kind=kind, rounds=rounds, size=size):
                        self.check(kind, rounds, size, WORDS, SALT)

    def test_the_most_bytes(self):
        for kind in REFERENCE_KINDS:
            for rounds, size in ((1, 1023), (1, 1024), (2, 1024), (3, 1024), (300, 1024)):
                with self.subTest(kind=kind, rounds=rounds, size=size):
                    self.check(kind, rounds, size, WORDS, SALT)

    def test_words_and_salt_of_many_lengths(self):
        for kind in REFERENCE_KINDS:
            for words in LENGTHS:
                for salt in LENGTHS:
                    for rounds in (1, 2):
                        with self.subTest(kind=kind, rounds=rounds, words=words, salt=salt):
                            self.check(kind, rounds, SIZES[kind] + 1, pattern(words), pattern(salt + 3)[3:])

    def test_long_words_and_salt_with_many_rounds(self):
        for kind in REFERENCE_KINDS:
            for length in (0, 129, 1024):
                with self.subTest(kind=kind, length=length):
                    self.check(kind, 300, 2 * SIZES[kind], pattern(length), pattern(length))

    def test_salts_about_the_end_of_a_block(self):
        # Four bytes that count the parts stand behind the salt, and 17 of padding behind these.
        for kind in REFERENCE_KINDS:
            for length in (106, 107, 108, 123, 124, 125, 235, 236):
                with self.subTest(kind=kind, length=length):
                    self.check(kind, 2, SIZES[kind] + 1, WORDS, pattern(length))

    def test_bytes_of_words_and_salt(self):
        for kind in REFERENCE_KINDS:
            for byte in (0, 0x36, 0x5C, 128, 255):
                with self.subTest(kind=kind, byte=byte):
                    self.check(kind, 2, 40, [byte], [0])
                    self.check(kind, 2, 40, [byte] * 128, [byte] * 5)

    def test_fewer_bytes_are_the_first_of_more(self):
        for kind in KINDS:
            most = asked(init(0), slow(kind, 2, 300, WORDS, SALT))[1]
            for size in sizes_about(kind)[:-1]:
                with self.subTest(kind=kind, size=size):
                    self.same(asked(init(0), slow(kind, 2, size, WORDS, SALT))[1], most[:1 + size])

    def test_both_references_agree(self):
        for kind in REFERENCE_KINDS:
            for rounds, size in ((1, 1), (3, 200), (300, 65)):
                with self.subTest(kind=kind, rounds=rounds, size=size):
                    self.same(
                        reference_slow(kind, rounds, size, WORDS, SALT),
                        reference_slow_by_marks(kind, rounds, size, WORDS, SALT),
                    )

    def test_a_wrong_kind_is_refused(self):
        for wrong in WRONG_KINDS:
            for words, salt in (([], []), ([2, 2], [0, 3, 2]), (pattern(1024), pattern(1024))):
                with self.subTest(wrong=wrong, words=len(words)):
                    self.check_refused(wrong, 1, 1, words, salt)
                    self.check_refused(wrong, 300, 1024, words, salt)

    def test_wrong_rounds_are_refused(self):
        for kind in KINDS:
            for wrong in WRONG_ROUNDS:
                for size in (1, 64, 1024):
                    with self.subTest(kind=kind, wrong=wrong, size=size):
                        self.check_refused(kind, wrong, size, WORDS, SALT)

    def test_a_wrong_size_is_refused(self):
        for kind in KINDS:
            for wrong in WRONG_MADE:
                for rounds in (1, 300):
                    with self.subTest(kind=kind, wrong=wrong, rounds=rounds):
                        self.check_refused(kind, rounds, wrong, WORDS, SALT)

    def test_several_wrong_numbers_are_refused(self):
        for kind in KINDS + WRONG_KINDS:
            for rounds in WRONG_ROUNDS + (1,):
                for size in WRONG_MADE + (1,):
                    if (kind in KINDS) + (rounds == 1) + (size == 1) < 2:
                        with self.subTest(kind=kind, rounds=rounds, size=size):
                            self.check_refused(kind, rounds, size, WORDS, [])

    def test_the_bounds_beyond_what_is_handed_in(self):
        # Such numbers and lists are not handed in, but the promise's own bounds stand by themselves.
        self.check(0, 301, 1, WORDS, SALT)
        self.check(0, 65536, 1, WORDS, SALT)
        self.check_refused(0, 1, 1, pattern(1025), SALT)
        self.check_refused(0, 1, 1, WORDS, pattern(1025))


if __name__ == "__main__":
    unittest.main()
