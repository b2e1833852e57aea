"""sl_mark, sl_slow, sl_draw and sl_rows are each by themselves: the object's row is as before, answered or refused."""

import unittest

from lines import LineTest, REFERENCE_KINDS, WRONG_KINDS, answers, pattern
from model import Model

MORE = 4294967295


def by_themselves(kind):
    # Each is a call on the model: first those that are answered, then those that are refused.
    return (
        lambda model: model.mark(kind, [9], pattern(200)),
        lambda model: model.mark(kind, pattern(200), []),
        lambda model: model.slow(kind, 2, 100, [9], pattern(200)),
        lambda model: model.slow(kind, 3, 1, pattern(200), []),
        lambda model: model.draw(kind, 100, [9], [8], pattern(200)),
        lambda model: model.draw(kind, 1, pattern(200), [], []),
        lambda model: model.rows(kind, 50, 5, pattern(250)),
        lambda model: model.rows(kind, 0, 1, []),
        lambda model: model.slow(kind, 0, 100, [9], [9]),
        lambda model: model.slow(kind, MORE, 100, [9], [9]),
        lambda model: model.slow(kind, 2, 0, [9], [9]),
        lambda model: model.slow(kind, 2, 1025, [9], [9]),
        lambda model: model.draw(kind, 0, [9], [9], [9]),
        lambda model: model.draw(kind, 1025, [9], [9], [9]),
        lambda model: model.rows(kind, 257, 1, []),
        lambda model: model.rows(kind, 1, 0, []),
        lambda model: model.rows(kind, 1, 257, []),
    )


class ObjectTest(LineTest):
    def check(self, model):
        self.same(answers(model.line), model.expected)

    def test_each_leaves_the_row(self):
        for own in REFERENCE_KINDS:
            for kind in REFERENCE_KINDS + WRONG_KINDS[:2]:
                for place, call in enumerate(by_themselves(kind)):
                    with self.subTest(own=own, kind=kind, place=place):
                        model = Model(own)
                        model.add(pattern(150))
                        model.told()
                        call(model)
                        model.told()
                        model.add(pattern(20))
                        call(model)
                        model.told()
                        self.check(model)

    def test_all_of_them_leave_an_empty_row_empty(self):
        for own in REFERENCE_KINDS:
            for kind in REFERENCE_KINDS + WRONG_KINDS:
                with self.subTest(own=own, kind=kind):
                    model = Model(own)
                    for call in by_themselves(kind):
                        call(model)
                        model.told()
                    self.check(model)

    def test_the_row_does_not_count_for_them(self):
        for own in REFERENCE_KINDS:
            for kind in REFERENCE_KINDS:
                with self.subTest(own=own, kind=kind):
                    model = Model(own)
                    for length in (0, 1, 128, 200):
                        model.add(pattern(length))
                        for call in by_themselves(kind):
                            call(model)
                    self.check(model)

    def test_the_same_call_twice_answers_the_same(self):
        for kind in REFERENCE_KINDS:
            for place, call in enumerate(by_themselves(kind)):
                with self.subTest(kind=kind, place=place):
                    model = Model(0)
                    for _ in range(3):
                        call(model)
                    self.check(model)


if __name__ == "__main__":
    unittest.main()
