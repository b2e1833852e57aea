"""Promise 2: sl_add puts bytes behind the row, sl_told tells the row's sum."""

import unittest

from known import EXAMPLES, SHORT_SUMS
from lines import (
    LineTest, DONE, EDGES, KINDS, REFERENCE_KINDS, REFUSED, SIZES, TOLD, add, add_too_much, asked, init, pattern,
    reference_sum, told,
)


class SumsTest(LineTest):
    def check(self, kind, data, *adds):
        given = asked(init(kind), *adds, TOLD)
        self.same(given, [DONE] * (1 + len(adds)) + [told(reference_sum(kind, data))])

    def test_the_examples_of_fips_180_4(self):
        for text, totals in EXAMPLES:
            for kind in KINDS:
                with self.subTest(text=text, kind=kind):
                    given = asked(init(kind), add(list(text.encode())), TOLD)
                    self.same(given, [DONE, DONE, told(bytes.fromhex(totals[kind]))])

    def test_fixed_values_of_the_short_kind(self):
        for length, total in SHORT_SUMS.items():
            with self.subTest(length=length):
                given = asked(init(2), add(pattern(length)), TOLD)
                self.same(given, [DONE, DONE, told(bytes.fromhex(total))])

    def test_the_edges_of_a_block(self):
        for kind in REFERENCE_KINDS:
            for length in EDGES:
                with self.subTest(kind=kind, length=length):
                    self.check(kind, pattern(length), add(pattern(length)))

    def test_every_length_up_to_three_blocks(self):
        for kind in REFERENCE_KINDS:
            for length in range(0, 385):
                with self.subTest(kind=kind, length=length):
                    self.check(kind, pattern(length), add(pattern(length)))

    def test_every_single_byte(self):
        for kind in REFERENCE_KINDS:
            for byte in range(256):
                with self.subTest(kind=kind, byte=byte):
                    self.check(kind, [byte], add([byte]))

    def test_blocks_of_one_byte_only(self):
        for kind in REFERENCE_KINDS:
            for byte in (0, 127, 128, 255):
                with self.subTest(kind=kind, byte=byte):
                    self.check(kind, [byte] * 300, add([byte] * 300))

    def test_thousands_of_bytes(self):
        for kind in REFERENCE_KINDS:
            for length in (1000, 4096, 8191, 8192, 8193, 20000, 29900):
                with self.subTest(kind=kind, length=length):
                    self.check(kind, pattern(length), add(pattern(length)))

    def test_bytes_in_several_calls(self):
        data = pattern(1500)
        for kind in REFERENCE_KINDS:
            for step in (1, 5, 64, 111, 127, 128, 129, 255, 256, 257, 700):
                length = min(len(data), 300 * step)
                adds = [add(data[at:min(at + step, length)]) for at in range(0, length, step)]
                with self.subTest(kind=kind, step=step):
                    self.check(kind, data[:length], *adds)

    def test_zeros_stand_behind_the_sum(self):
        for kind in KINDS:
            for data in ([], pattern(1), pattern(500)):
                with self.subTest(kind=kind, length=len(data)):
                    answer = asked(init(kind), add(data), TOLD)[-1]
                    self.assertEqual(len(answer), 65)
                    self.assertEqual(answer[0], 0)
                    self.assertNotEqual(answer[SIZES[kind] - 7:SIZES[kind] + 1], [0] * 8)
                    self.same(answer[1 + SIZES[kind]:], [0] * (64 - SIZES[kind]))

    def test_told_twice_in_a_row(self):
        for kind in REFERENCE_KINDS:
            for length in EDGES:
                with self.subTest(kind=kind, length=length):
                    answer = told(reference_sum(kind, pattern(length)))
                    given = asked(init(kind), add(pattern(length)), TOLD, TOLD, TOLD)
                    self.same(given, [DONE, DONE, answer, answer, answer])

    def test_add_behind_told(self):
        for kind in REFERENCE_KINDS:
            for length in EDGES:
                with self.subTest(kind=kind, length=length):
                    data = pattern(length)
                    more = pattern(130)
                    given = asked(init(kind), TOLD, add(data), TOLD, add(more), TOLD)
                    self.same(given[1], told(reference_sum(kind, [])))
                    self.same(given[3], told(reference_sum(kind, data)))
                    self.same(given[5], told(reference_sum(kind, data + more)))

    def test_add_of_no_bytes(self):
        for kind in REFERENCE_KINDS:
            for length in (0, 3, 127, 128, 129):
                with self.subTest(kind=kind, length=length):
                    self.check(kind, pattern(length), add([]), add(pattern(length)), add([]), add([]))

    def test_too_much_is_refused_and_changes_nothing(self):
        for kind in REFERENCE_KINDS:
            for size in (65537, 65538, 131072, 2147483648, 4294967295):
                with self.subTest(kind=kind, size=size):
                    data = pattern(130)
                    given = asked(
                        init(kind), add_too_much(size), TOLD, add(data[:60]), add_too_much(size), TOLD,
                        add(data[60:]), add_too_much(size), TOLD,
                    )
                    self.same(given, [
                        DONE, REFUSED, told(reference_sum(kind, [])), DONE, REFUSED,
                        told(reference_sum(kind, data[:60])), DONE, REFUSED, told(reference_sum(kind, data)),
                    ])

    def test_the_most_that_is_taken(self):
        # A line of this length is not handed in, but the promise of 65536 bytes stands by itself.
        self.check(0, pattern(65536), add(pattern(65536)))


if __name__ == "__main__":
    unittest.main()
