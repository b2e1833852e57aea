"""Promise 6: sl_rows answers one sum over rows of the same width, by a tree of sums."""

import unittest

from known import SHORT_TREES
from lines import (
    LineTest, DONE, KINDS, REFERENCE_KINDS, REFUSED, SIZES, TOLD, WRONG_KINDS, add, asked, init, pattern,
    reference_pair, reference_rows, reference_sum, rows, told,
)

WIDTHS = (0, 1, 2, 110, 111, 112, 127, 128, 129, 238, 239, 255, 256)
SMALL_COUNTS = (1, 2, 3, 4, 5, 6, 7, 8, 9, 11, 13)
MOST_NUMBERS = 29900
WRONG_WIDTHS = (257, 65536, 4294967295)
WRONG_COUNTS = (0, 257, 65536, 4294967295)


class RowsTest(LineTest):
    def check(self, kind, width, count, data):
        given = asked(init(0), rows(kind, width, count, data))
        self.same(given, [DONE, [0] + reference_rows(kind, width, count, data)])

    def check_refused(self, kind, width, count, data):
        # The call behind the refused one shows that the refused one was read to its end.
        given = asked(init(1), add([5]), rows(kind, width, count, data), TOLD)
        self.same(given, [DONE, DONE, REFUSED, told(reference_sum(1, [5]))])

    def test_fixed_values_of_the_short_kind(self):
        for width, count, total in SHORT_TREES:
            with self.subTest(width=width, count=count):
                given = asked(init(0), rows(2, width, count, pattern(width * count)))
                self.same(given, [DONE, [0] + list(bytes.fromhex(total))])

    def test_widths_and_small_counts(self):
        for kind in REFERENCE_KINDS:
            for width in WIDTHS:
                for count in SMALL_COUNTS:
                    with self.subTest(kind=kind, width=width, count=count):
                        self.check(kind, width, count, pattern(width * count))

    def test_many_counts_of_narrow_rows(self):
        for kind in REFERENCE_KINDS:
            for count in tuple(range(1, 66)) + (100, 127, 128, 129, 171, 191, 192, 193, 254, 255, 256):
                with self.subTest(kind=kind, count=count):
                    self.check(kind, 3, count, pattern(3 * count))

    def test_the_most_rows(self):
        for kind in REFERENCE_KINDS:
            for width in (0, 1, 110, 111, 116):
                for count in (255, 256):
                    with self.subTest(kind=kind, width=width, count=count):
                        self.check(kind, width, count, pattern(width * count))

    def test_as_many_wide_rows_as_a_list_holds(self):
        for kind in REFERENCE_KINDS:
            for width in (127, 128, 130, 256):
                count = MOST_NUMBERS // width
                with self.subTest(kind=kind, width=width, count=count):
                    self.check(kind, width, count, pattern(width * count))

    def test_the_widest_and_the_most_at_once(self):
        # A list of this length is not handed in, but the promise's own bounds stand by themselves.
        self.check(0, 256, 256, pattern(256 * 256))

    def test_one_row_is_told_with_a_byte_0_in_front(self):
        for kind in REFERENCE_KINDS:
            for width in WIDTHS:
                with self.subTest(kind=kind, width=width):
                    given = asked(init(0), rows(kind, width, 1, pattern(width)))
                    self.same(given[1], [0] + reference_sum(kind, [0] + pattern(width)))

    def test_trees_written_out(self):
        for kind in REFERENCE_KINDS:
            def pair(left, right):
                return reference_pair(kind, left, right)

            a, b, c, d, e, f, g = [reference_sum(kind, [0, place]) for place in range(7)]
            trees = (
                a, pair(a, b), pair(pair(a, b), c), pair(pair(a, b), pair(c, d)),
                pair(pair(pair(a, b), pair(c, d)), e), pair(pair(pair(a, b), pair(c, d)), pair(e, f)),
                pair(pair(pair(a, b), pair(c, d)), pair(pair(e, f), g)),
            )
            for count, total in enumerate(trees, 1):
                with self.subTest(kind=kind, count=count):
                    self.same(asked(init(0), rows(kind, 1, count, list(range(count))))[1], [0] + total)

    def test_rows_without_bytes(self):
        for kind in REFERENCE_KINDS:
            row = reference_sum(kind, [0])
            with self.subTest(kind=kind):
                given = asked(init(0), rows(kind, 0, 1, []), rows(kind, 0, 2, []), rows(kind, 0, 256, []))
                full = row
                for _ in range(8):
                    full = reference_pair(kind, full, full)
                self.same(given, [DONE, [0] + row, [0] + reference_pair(kind, row, row), [0] + full])

    def test_the_order_of_rows_counts(self):
        for kind in KINDS:
            with self.subTest(kind=kind):
                given = asked(init(0), rows(kind, 1, 3, [1, 2, 3]), rows(kind, 1, 3, [2, 1, 3]))
                self.assertNotEqual(given[1], given[2])

    def test_width_and_count_are_told_apart(self):
        data = pattern(12)
        for kind in REFERENCE_KINDS:
            for width, count in ((1, 12), (2, 6), (3, 4), (4, 3), (6, 2), (12, 1)):
                with self.subTest(kind=kind, width=width, count=count):
                    self.check(kind, width, count, data)

    def test_as_many_bytes_as_the_kind_has(self):
        for kind in KINDS:
            for count in (1, 2, 3):
                with self.subTest(kind=kind, count=count):
                    self.assertEqual(len(asked(init(0), rows(kind, 1, count, [9] * count))[1]), 1 + SIZES[kind])

    def test_a_wrong_kind_is_refused_behind_its_rows(self):
        for wrong in WRONG_KINDS:
            for width, count in ((0, 1), (0, 256), (1, 1), (3, 5), (256, 1), (1, 256), (130, 230)):
                with self.subTest(wrong=wrong, width=width, count=count):
                    self.check_refused(wrong, width, count, pattern(width * count))
                    self.check_refused(wrong, width, count, [2] * (width * count))

    def test_a_wrong_width_is_refused(self):
        for kind in KINDS + WRONG_KINDS:
            for wrong in WRONG_WIDTHS:
                for count in (1, 2, 256):
                    with self.subTest(kind=kind, wrong=wrong, count=count):
                        self.check_refused(kind, wrong, count, [])

    def test_a_wrong_count_is_refused(self):
        for kind in KINDS + WRONG_KINDS:
            for wrong in WRONG_COUNTS:
                for width in (0, 1, 256):
                    with self.subTest(kind=kind, wrong=wrong, width=width):
                        self.check_refused(kind, width, wrong, [])

    def test_a_wrong_width_and_a_wrong_count_are_refused(self):
        for kind in KINDS + WRONG_KINDS:
            for width in WRONG_WIDTHS:
                for count in WRONG_COUNTS:
                    with self.subTest(kind=kind, width=width, count=count):
                        self.check_refused(kind, width, count, [])


if __name__ == "__main__":
    unittest.main()
