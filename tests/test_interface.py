"""The interface: how a line of calls is written, how its answers are, and that nothing is kept or changed."""

import contextlib
import io
import unittest

from known import EXAMPLES
from lines import (
    LineTest, DONE, REFUSED, TOLD, add, add_too_much, asked, init, mark, pattern, reference_mark, reference_sum, told,
)

from longsums.desk import answers

# Every call that there is, with its refusals, on one object.
LINE = (
    init(0) + TOLD + add([97, 98, 99]) + init(3) + TOLD + add_too_much(65537) + init(1) + add([97, 98]) + add([])
    + add([99]) + TOLD + mark(1, [1, 2, 3], [4, 5]) + mark(-1, [2], [2, 2]) + mark(0, [], []) + TOLD
)


class InterfaceTest(LineTest):
    def test_number_for_number(self):
        empty = list(bytes.fromhex(EXAMPLES[0][1][0]))
        long_abc = list(bytes.fromhex(EXAMPLES[1][1][0]))
        middle_abc = list(bytes.fromhex(EXAMPLES[1][1][1]))
        self.same(
            answers(LINE),
            [1, 0, 65, 0] + empty + [1, 0, 1, -2, 65, 0] + long_abc + [1, -2, 1, 0, 1, 0, 1, 0, 1, 0, 65, 0]
            + middle_abc + [0] * 16 + [49, 0] + reference_mark(1, [1, 2, 3], [4, 5]) + [1, -2, 65, 0]
            + reference_mark(0, [], []) + [65, 0] + middle_abc + [0] * 16,
        )

    def test_one_call(self):
        for kind in (0, 1, 2):
            self.same(answers([0, kind]), [1, 0])

    def test_the_count_before_each_answer(self):
        given = answers(init(2) + TOLD + mark(0, [], []) + mark(1, [], []) + mark(2, [], []) + mark(9, [], []))
        self.same([given[0], given[2], given[68], given[134], given[184], given[218]], [1, 65, 65, 49, 33, 1])
        self.assertEqual(len(given), 220)

    def test_bytes_that_look_like_calls(self):
        data = [0, 1, 2, 3, 2, 1, 0, 0]
        given = asked(init(0), add(data), mark(1, data, data), TOLD)
        self.same(given, [DONE, DONE, [0] + reference_mark(1, data, data), told(reference_sum(0, data))])

    def test_only_whole_numbers_in_one_list(self):
        given = answers(LINE)
        self.assertIs(type(given), list)
        self.assertEqual({type(number) for number in given}, {int})

    def test_a_line_of_400_calls(self):
        calls = [init(0)]
        expected = [DONE]
        row = []
        for place in range(133):
            data = pattern(place)
            row.extend(data)
            calls.extend([add(data), TOLD, mark(place % 2, data, [place])])
            expected.extend([DONE, told(reference_sum(0, row)), [0] + reference_mark(place % 2, data, [place])])
        self.assertEqual(len(calls), 400)
        self.same(asked(*calls), expected)

    def test_400_calls_of_one_sort(self):
        self.same(answers(init(1) * 400), [1, 0] * 400)
        self.same(answers(init(1) + add([]) * 399), [1, 0] * 400)
        self.same(answers(init(1) + init(7) * 399), [1, 0] + [1, -2] * 399)

    def test_a_long_row_told_again_and_again(self):
        data = pattern(29000)
        given = asked(init(1), add(data), *([TOLD] * 398))
        self.same(given, [DONE, DONE] + [told(reference_sum(1, data))] * 398)

    def test_a_list_of_30000_numbers(self):
        data = pattern(29900)
        filler = pattern(30000 - 2 - 3 - 29900 - 1 - 5)
        line = init(0) + add(data) + TOLD + mark(1, filler, []) + [2]
        self.assertEqual(len(line), 30000)
        total = told(reference_sum(0, data))
        self.same(answers(line), [1, 0, 1, 0, 65] + total + [49, 0] + reference_mark(1, filler, []) + [65] + total)

    def test_30000_numbers_in_one_mark(self):
        data = pattern(28900)
        key = pattern(1024)
        self.same(asked(init(0), mark(0, key, data)), [DONE, [0] + reference_mark(0, key, data)])

    def test_the_list_handed_in_stays(self):
        for line in (list(LINE), init(0) + add(pattern(400)) + mark(0, pattern(200), pattern(300)) + TOLD):
            before = list(line)
            answers(line)
            self.same(line, before)

    def test_the_list_given_back_is_free(self):
        given = answers(LINE)
        before = list(given)
        given.clear()
        self.same(answers(LINE), before)

    def test_nothing_is_kept(self):
        other = init(2) + add(pattern(300)) + mark(2, pattern(5), pattern(6)) + init(-1)
        first = answers(LINE)
        other_first = answers(other)
        self.same(answers(LINE), first)
        self.same(answers(other), other_first)
        self.same(answers(LINE), first)

    def test_nothing_is_printed(self):
        printed = io.StringIO()
        with contextlib.redirect_stdout(printed), contextlib.redirect_stderr(printed):
            answers(LINE)
        self.assertEqual(printed.getvalue(), "")

    def test_refusals_are_their_number_alone(self):
        given = asked(init(0), init(-1), add_too_much(4294967295), mark(3, [1], [1]))
        self.same(given, [DONE, REFUSED, REFUSED, REFUSED])


if __name__ == "__main__":
    unittest.main()
