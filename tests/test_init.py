"""Promise 1: sl_init makes an empty row of bytes, of a kind."""

import unittest

from known import EXAMPLES
from lines import LineTest, DONE, KINDS, REFUSED, TOLD, WRONG_KINDS, add, asked, init, told

EMPTY_SUMS = [told(bytes.fromhex(total)) for total in EXAMPLES[0][1]]
ABC = list(b"abc")
ABC_SUMS = [told(bytes.fromhex(total)) for total in EXAMPLES[1][1]]


class InitTest(LineTest):
    def test_every_kind_starts_empty(self):
        for kind in KINDS:
            with self.subTest(kind=kind):
                self.same(asked(init(kind), TOLD), [DONE, EMPTY_SUMS[kind]])

    def test_again_in_the_middle_empties_the_row(self):
        for kind in KINDS:
            for later in KINDS:
                with self.subTest(kind=kind, later=later):
                    given = asked(init(kind), add(ABC), TOLD, init(later), TOLD, add(ABC), TOLD)
                    self.same(
                        given,
                        [DONE, DONE, ABC_SUMS[kind], DONE, EMPTY_SUMS[later], DONE, ABC_SUMS[later]],
                    )

    def test_again_behind_whole_blocks_empties_the_row(self):
        for kind in KINDS:
            for length in (128, 200, 256):
                with self.subTest(kind=kind, length=length):
                    given = asked(init(kind), add([1] * length), init(kind), TOLD)
                    self.same(given[-1], EMPTY_SUMS[kind])

    def test_twice_in_a_row(self):
        self.same(asked(init(1), init(1), init(2), TOLD), [DONE, DONE, DONE, EMPTY_SUMS[2]])

    def test_a_wrong_kind_is_refused_and_changes_nothing(self):
        for kind in KINDS:
            for wrong in WRONG_KINDS:
                with self.subTest(kind=kind, wrong=wrong):
                    given = asked(init(kind), add(ABC[:2]), init(wrong), add(ABC[2:]), init(wrong), TOLD)
                    self.same(given, [DONE, DONE, REFUSED, DONE, REFUSED, ABC_SUMS[kind]])

    def test_a_wrong_kind_leaves_an_empty_row_empty(self):
        for kind in KINDS:
            for wrong in WRONG_KINDS:
                with self.subTest(kind=kind, wrong=wrong):
                    self.same(asked(init(kind), init(wrong), TOLD), [DONE, REFUSED, EMPTY_SUMS[kind]])


if __name__ == "__main__":
    unittest.main()
