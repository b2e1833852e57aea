"""Promise 3: sl_mark answers HMAC of bytes under a key."""

import unittest

from known import RFC_4231, SHORT_MARKS
from lines import (
    LineTest, DONE, EDGES, KINDS, REFERENCE_KINDS, REFUSED, SIZES, TOLD, WRONG_KINDS, add, asked, init, mark, pattern,
    reference_mark, reference_sum, told,
)

KEY_LENGTHS = (0, 1, 20, 64, 126, 127, 128, 129, 130, 255, 256, 257, 1023, 1024)


class MarkTest(LineTest):
    def check(self, kind, key, data):
        given = asked(init(0), mark(kind, key, data))
        self.same(given, [DONE, [0] + reference_mark(kind, key, data)])

    def test_the_examples_of_rfc_4231(self):
        for key, data, long_mark, middle_mark in RFC_4231:
            for kind, total in ((0, long_mark), (1, middle_mark)):
                with self.subTest(key=key, kind=kind):
                    given = asked(init(2), mark(kind, list(bytes.fromhex(key)), list(bytes.fromhex(data))))
                    self.same(given, [DONE, [0] + list(bytes.fromhex(total))])

    def test_fixed_values_of_the_short_kind(self):
        for length, total in SHORT_MARKS.items():
            with self.subTest(length=length):
                given = asked(init(0), mark(2, pattern(length), pattern(300)))
                self.same(given, [DONE, [0] + list(bytes.fromhex(total))])

    def test_keys_of_many_lengths(self):
        for kind in REFERENCE_KINDS:
            for length in KEY_LENGTHS:
                for data in ([], pattern(1), pattern(300)):
                    with self.subTest(kind=kind, length=length, data=len(data)):
                        self.check(kind, pattern(length), data)

    def test_data_of_many_lengths(self):
        for kind in REFERENCE_KINDS:
            for length in EDGES + (5000, 28000):
                with self.subTest(kind=kind, length=length):
                    self.check(kind, pattern(40), pattern(length))

    def test_no_key_and_no_data(self):
        for kind in REFERENCE_KINDS:
            with self.subTest(kind=kind):
                self.check(kind, [], [])

    def test_as_many_bytes_as_the_kind_has(self):
        for kind in KINDS:
            with self.subTest(kind=kind):
                self.assertEqual(len(asked(init(0), mark(kind, [1], [2]))[1]), 1 + SIZES[kind])

    def test_a_wrong_kind_is_refused(self):
        for wrong in WRONG_KINDS:
            for key, data in (([], []), ([1, 2], [0, 3, 2]), (pattern(1024), pattern(500))):
                with self.subTest(wrong=wrong, key=len(key)):
                    given = asked(init(1), add([5]), mark(wrong, key, data), TOLD)
                    self.same(given, [DONE, DONE, REFUSED, told(reference_sum(1, [5]))])

    def test_the_row_stays(self):
        for kind in REFERENCE_KINDS:
            for other in REFERENCE_KINDS:
                with self.subTest(kind=kind, other=other):
                    data = pattern(150)
                    given = asked(
                        init(kind), add(data[:50]), mark(other, [9], pattern(200)), TOLD,
                        add(data[50:]), mark(other, pattern(200), []), TOLD,
                    )
                    self.same(given, [
                        DONE, DONE, [0] + reference_mark(other, [9], pattern(200)),
                        told(reference_sum(kind, data[:50])),
                        DONE, [0] + reference_mark(other, pattern(200), []), told(reference_sum(kind, data)),
                    ])

    def test_the_kind_and_row_of_the_object_do_not_count(self):
        for kind in REFERENCE_KINDS:
            for other in REFERENCE_KINDS:
                with self.subTest(kind=kind, other=other):
                    given = asked(init(kind), mark(other, [1], [2]), add([7, 8]), mark(other, [1], [2]))
                    self.same(given[1], given[3])
                    self.same(given[1], [0] + reference_mark(other, [1], [2]))

    def test_the_most_that_is_taken(self):
        # Lists of these lengths are not handed in, but the promise's own bounds stand by themselves.
        self.check(0, [1], pattern(65536))
        self.same(asked(init(0), mark(0, [1], pattern(65537)), TOLD)[1:], [REFUSED, told(reference_sum(0, []))])
        self.same(asked(init(0), mark(0, pattern(1025), [1]), TOLD)[1:], [REFUSED, told(reference_sum(0, []))])


if __name__ == "__main__":
    unittest.main()
