"""The interface: how a line of calls is written, how its answers are, and that nothing is kept or changed."""

import contextlib
import io
import random
import unittest

from known import EXAMPLES
from lines import (
    LineTest, DONE, REFERENCE_KINDS, REFUSED, TOLD, WRONG_KINDS, add, add_too_much, asked, draw, init, mark, pattern,
    reference_draw, reference_mark, reference_rows, reference_slow, reference_sum, rows, slow, split, told,
)
from model import Model

from longsums.desk import answers

# Every call that there is, with its refusals, on one object.
LINE = (
    init(0) + TOLD + add([97, 98, 99]) + init(3) + TOLD + add_too_much(65537) + init(1) + add([97, 98]) + add([])
    + add([99]) + TOLD + mark(1, [1, 2, 3], [4, 5]) + mark(-1, [2], [2, 2]) + mark(0, [], []) + TOLD
    + slow(0, 3, 5, [1, 2], [3]) + slow(1, 0, 5, [2], [2]) + slow(1, 2, 50, [], []) + TOLD
    + draw(0, 7, [1], [2, 3], [4, 5, 6]) + draw(0, 1025, [2], [2], [2]) + draw(1, 49, [], [], []) + TOLD
    + rows(0, 2, 3, [1, 2, 3, 4, 5, 6]) + rows(7, 1, 2, [2, 2]) + rows(1, 257, 1, []) + rows(1, 0, 1, []) + TOLD
)

WHOLE_LINE = [
    0, 1, 1, 3, 3, 97, 98, 99, 2, 3, 1, 2, 10, 11, 1, 12, 4, 0, 2, 3, 1, 13, 2, 14, 15, 5, 1, 4, 1, 16, 1, 17, 1, 18,
    6, 0, 2, 2, 4, 19, 20, 21, 22, 2,
]


def any_bytes(chance):
    return chance.choices(range(256), k=chance.choice((0, 1, 3, 20, 127, 128, 129, 200)))


def any_number(chance, good, wrong):
    return chance.choice(good) if chance.random() < 0.8 else chance.choice(wrong)


def any_rows(chance, model, kind):
    width = any_number(chance, (0, 1, 5, 40, 128), (257, 4294967295))
    count = any_number(chance, (1, 2, 3, 5, 6, 7), (0, 257, 4294967295))
    size = width * count if width <= 256 and 1 <= count <= 256 else 0
    model.rows(kind, width, count, chance.choices(range(256), k=size))


def any_call(chance, model):
    call = chance.randrange(7)
    kind = any_number(chance, REFERENCE_KINDS, WRONG_KINDS)
    size = any_number(chance, (1, 31, 32, 33, 47, 48, 49, 63, 64, 65, 200), (0, 1025, 4294967295))
    if call == 0:
        model.init(kind)
    elif call == 1:
        model.add(any_bytes(chance))
    elif call == 2:
        model.told()
    elif call == 3:
        model.mark(kind, any_bytes(chance), any_bytes(chance))
    elif call == 4:
        rounds = any_number(chance, (1, 2, 3, 4), (0, 65537, 4294967295))
        model.slow(kind, rounds, size, any_bytes(chance), any_bytes(chance))
    elif call == 5:
        model.draw(kind, size, any_bytes(chance), any_bytes(chance), any_bytes(chance))
    else:
        any_rows(chance, model, kind)


def any_line(chance):
    model = Model(chance.choice(REFERENCE_KINDS))
    for _ in range(60):
        any_call(chance, model)
    return model


def not_allowed(*given, **named):
    raise AssertionError("the list handed in is changed")


class Unchanging(list):
    __setitem__ = __delitem__ = __iadd__ = __imul__ = not_allowed
    append = clear = extend = insert = pop = remove = reverse = sort = not_allowed


class InterfaceTest(LineTest):
    def test_number_for_number(self):
        empty = list(bytes.fromhex(EXAMPLES[0][1][0]))
        long_abc = list(bytes.fromhex(EXAMPLES[1][1][0]))
        middle_abc = list(bytes.fromhex(EXAMPLES[1][1][1]))
        self.same(
            answers(LINE),
            [1, 0, 65, 0] + empty + [1, 0, 1, -2, 65, 0] + long_abc + [1, -2, 1, 0, 1, 0, 1, 0, 1, 0, 65, 0]
            + middle_abc + [0] * 16 + [49, 0] + reference_mark(1, [1, 2, 3], [4, 5]) + [1, -2, 65, 0]
            + reference_mark(0, [], []) + [65, 0] + middle_abc + [0] * 16
            + [6, 0] + reference_slow(0, 3, 5, [1, 2], [3]) + [1, -2]
            + [51, 0] + reference_slow(1, 2, 50, [], []) + [65, 0] + middle_abc + [0] * 16
            + [8, 0] + reference_draw(0, 7, [1], [2, 3], [4, 5, 6]) + [1, -2]
            + [50, 0] + reference_draw(1, 49, [], [], []) + [65, 0] + middle_abc + [0] * 16
            + [65, 0] + reference_rows(0, 2, 3, [1, 2, 3, 4, 5, 6]) + [1, -2, 1, -2]
            + [49, 0] + reference_rows(1, 0, 1, []) + [65, 0] + middle_abc + [0] * 16,
        )

    def test_all_seven_calls_written_as_plain_numbers(self):
        middle_abc = list(bytes.fromhex(EXAMPLES[1][1][1]))
        self.same(
            answers(WHOLE_LINE),
            [1, 0, 1, 0, 65, 0] + middle_abc + [0] * 16
            + [49, 0] + reference_mark(1, [10, 11], [12])
            + [4, 0] + reference_slow(0, 2, 3, [13], [14, 15])
            + [5, 0] + reference_draw(1, 4, [16], [17], [18])
            + [65, 0] + reference_rows(0, 2, 2, [19, 20, 21, 22])
            + [65, 0] + middle_abc + [0] * 16,
        )

    def test_one_call(self):
        for kind in (0, 1, 2):
            self.same(answers([0, kind]), [1, 0])

    def test_the_count_before_each_answer(self):
        given = answers(init(2) + TOLD + mark(0, [], []) + mark(1, [], []) + mark(2, [], []) + mark(9, [], []))
        self.same([given[0], given[2], given[68], given[134], given[184], given[218]], [1, 65, 65, 49, 33, 1])
        self.assertEqual(len(given), 220)

    def test_bytes_that_look_like_calls(self):
        data = [0, 1, 2, 3, 2, 1, 0, 0, 4, 5, 6, 2]
        given = asked(
            init(0), add(data), mark(1, data, data), slow(1, 2, 70, data, data), draw(1, 70, data, data, data),
            rows(1, 4, 3, data), TOLD,
        )
        self.same(given, [
            DONE, DONE, [0] + reference_mark(1, data, data), [0] + reference_slow(1, 2, 70, data, data),
            [0] + reference_draw(1, 70, data, data, data), [0] + reference_rows(1, 4, 3, data),
            told(reference_sum(0, data)),
        ])

    def test_only_whole_numbers_in_one_list(self):
        given = answers(LINE)
        self.assertIs(type(given), list)
        self.assertEqual({type(number) for number in given}, {int})

    def test_a_line_of_400_calls_on_the_row(self):
        calls = [init(0)]
        expected = [DONE]
        row = []
        for place in range(133):
            data = pattern(place)
            row.extend(data)
            calls.extend([add(data), TOLD, mark(place % 2, data, [place])])
            expected.extend([DONE, told(reference_sum(0, row)), [0] + reference_mark(place % 2, data, [place])])
        self.assertEqual(len(calls), 400)
        self.same(asked(*calls), expected)

    def test_a_line_of_400_calls_of_all_sorts(self):
        model = Model(0)
        for place in range(57):
            data = pattern(place)
            kind = 3 if place % 10 == 9 else REFERENCE_KINDS[place % len(REFERENCE_KINDS)]
            model.init((0, 3, 1, -1)[place % 4])
            if place % 5 == 0:
                model.add_too_much(65537 + place)
            else:
                model.add(data)
            model.told()
            model.mark(kind, data, [place])
            model.slow(kind, place % 4, 2 * place, data, [place])
            model.draw(kind, 18 * place, data, [place], data)
            model.rows(kind, place, place % 6, pattern(place * (place % 6)))
        self.assertEqual(model.calls, 400)
        self.same(answers(model.line), model.expected)

    def test_lines_of_any_calls(self):
        for seed in range(40):
            with self.subTest(seed=seed):
                model = any_line(random.Random(seed))
                self.same(answers(model.line), model.expected)

    def test_400_calls_of_one_sort(self):
        self.same(answers(init(1) * 400), [1, 0] * 400)
        self.same(answers(init(1) + add([]) * 399), [1, 0] * 400)
        self.same(answers(init(1) + init(7) * 399), [1, 0] + [1, -2] * 399)

    def test_a_long_row_told_again_and_again(self):
        data = pattern(29000)
        given = asked(init(1), add(data), *([TOLD] * 398))
        self.same(given, [DONE, DONE] + [told(reference_sum(1, data))] * 398)

    def test_a_list_of_30000_numbers(self):
        data = pattern(29900)
        filler = pattern(30000 - 2 - 3 - 29900 - 1 - 5)
        line = init(0) + add(data) + TOLD + mark(1, filler, []) + [2]
        self.assertEqual(len(line), 30000)
        total = told(reference_sum(0, data))
        self.same(answers(line), [1, 0, 1, 0, 65] + total + [49, 0] + reference_mark(1, filler, []) + [65] + total)

    def test_30000_numbers_in_one_mark(self):
        data = pattern(28900)
        key = pattern(1024)
        self.same(asked(init(0), mark(0, key, data)), [DONE, [0] + reference_mark(0, key, data)])

    def test_30000_numbers_in_one_tree(self):
        data = pattern(29900)
        line = init(0) + rows(1, 130, 230, data) + TOLD + add(pattern(88)) + TOLD
        self.assertEqual(len(line), 30000)
        self.same(
            split(answers(line)),
            [DONE, [0] + reference_rows(1, 130, 230, data), told(reference_sum(0, [])), DONE,
             told(reference_sum(0, pattern(88)))],
        )

    def test_30000_numbers_in_many_calls(self):
        model = Model(1)
        for _ in range(9):
            model.draw(0, 1024, pattern(1024), pattern(1024), pattern(1024))
        model.slow(1, 2, 1024, pattern(1024), pattern(1024))
        model.told()
        self.assertGreater(len(model.line), 29500)
        self.assertLessEqual(len(model.line), 30000)
        self.same(answers(model.line), model.expected)

    def test_the_list_handed_in_stays(self):
        long_line = (
            init(0) + add(pattern(400)) + mark(0, pattern(200), pattern(300))
            + slow(1, 2, 100, pattern(200), pattern(300)) + draw(0, 100, pattern(200), pattern(300), pattern(400))
            + rows(1, 50, 7, pattern(350)) + TOLD
        )
        for line in (list(LINE), list(WHOLE_LINE), long_line):
            before = list(line)
            answers(line)
            self.same(line, before)

    def test_the_list_handed_in_is_not_changed_for_a_while_either(self):
        line = Unchanging(LINE)
        self.same(answers(line), answers(LINE))

    def test_the_list_given_back_is_free(self):
        given = answers(LINE)
        before = list(given)
        given.clear()
        self.same(answers(LINE), before)

    def test_nothing_is_kept(self):
        other = (
            init(2) + add(pattern(300)) + mark(2, pattern(5), pattern(6)) + init(-1) + slow(2, 2, 40, [1], [2])
            + draw(2, 40, [1], [2], [3]) + rows(2, 1, 5, pattern(5)) + TOLD
        )
        first = answers(LINE)
        other_first = answers(other)
        self.same(answers(LINE), first)
        self.same(answers(other), other_first)
        self.same(answers(LINE), first)

    def test_nothing_is_printed(self):
        printed = io.StringIO()
        with contextlib.redirect_stdout(printed), contextlib.redirect_stderr(printed):
            answers(LINE)
        self.assertEqual(printed.getvalue(), "")

    def test_refusals_are_their_number_alone(self):
        given = asked(
            init(0), init(-1), add_too_much(4294967295), mark(3, [1], [1]), slow(3, 1, 1, [1], [1]),
            draw(3, 1, [1], [1], [1]), rows(3, 1, 1, [1]),
        )
        self.same(given, [DONE] + [REFUSED] * 6)


if __name__ == "__main__":
    unittest.main()
