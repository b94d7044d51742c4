"""How calls are laid out, how answers are given back, and that nothing is changed or kept."""

import unittest

from macroplays.editor import answers
from tests.helper import ask, do, fill, flat, get, period, record, shows, stop, text, undo, would

A, B = b"ab"


class Untouched(list):
    """A list that tells of whoever changes it, even if only for a while."""

    def refuse(self, *args, **kwargs):
        raise AssertionError("the list that was handed in is changed")

    __setitem__ = __delitem__ = __iadd__ = __imul__ = refuse
    append = extend = insert = pop = remove = clear = sort = reverse = refuse


# All ten calls, 30 in all, each answered and, where it can be, refused.
CALLS = flat([
    stop(), undo(), shows(), text(1, b"ab"), text(9, b"ab"),
    fill(0, (0, A), (14, 1, 3)), fill(1, (8,)), get(0), get(10), would((13, 0)),
    do((13, 0)), do((15, 1)), do((0, 256)), period(0), period(1),
    period(10), record(0, 1), record(1, 0), do(*[(6,)] * 38), do((6,)),
    would((15, 1)), would((6,), (11,)), do(), undo(), undo(),
    stop(), get(1), period(0), shows(), would((0, 256)),
])
ANSWERS = flat([
    [1, -7], [1, -7], [3, 0, 0, 0], [1, 2], [1, -1],
    [1, 2], [1, 1], [6, 2, 0, A, 14, 1, 3], [1, -2], [5, 1, 2, 3, 2, 0],
    [5, 1, 2, 3, 2, 0], [5, 0, 1, 3, 2, 0], [1, -1], [2, 1, 0], [2, 1, 0],
    [1, -2], [1, 2], [1, -7], [5, 0, 38, 3, 0, 0], [1, -5],
    [5, 0, 1, 3, 0, 0], [5, 0, 2, 3, 0, A + 1], [5, 0, 0, 3, 0, 0], [3, 3, 0, 0], [3, 3, 2, 0],
    [2, 0, 40], [2, 1, 8], [2, 1, 0], [6, 3, 2, 0, A, A, B], [1, -1],
])

# One of each call, with how many numbers are answered where it isn't refused; of shows the text's bytes come on top.
EACH = [
    (text(1, b"ab"), 1), (do((0, A)), 5), (fill(0, (8,)), 1), (get(9), 1), (record(3, 0), 1),
    (stop(), 2), (shows(), 3), (undo(), 3), (would((2,), (4, B)), 5), (period(9), 3),
]


class Interface(unittest.TestCase):
    def test_calls_and_answers_as_they_are_laid_out(self):
        calls = [0, 1, 2, A, B,
                 2, 3, 5, 0, 255, 14, 9, 4294967295,
                 3, 3,
                 1, 3, 11, 13, 3,
                 4, 3, 1,
                 0, 3, 2, A, B,
                 1, 0]
        wanted = [1, 2,
                  1, 2,
                  6, 2, 0, 255, 14, 9, 4294967295,
                  5, 0, 2, 3, 2, B + 1,
                  1, 2,
                  1, -1,
                  5, 0, 0, 3, 2, B + 1]
        self.assertEqual(answers(calls), wanted)

    def test_the_other_calls_as_they_are_laid_out(self):
        calls = [5,
                 7,
                 0, 1, 2, A, B,
                 4, 9, 0,
                 1, 1, 11,
                 8, 3, 0, 255, 6,
                 6,
                 9, 9,
                 5,
                 7,
                 9, 9,
                 1, 1, 2,
                 9, 9,
                 9, 10,
                 8, 0,
                 6]
        wanted = [1, -7,
                  1, -7,
                  1, 2,
                  1, 0,
                  5, 0, 1, 2, 1, B + 1,
                  5, 0, 2, 3, 0, B + 1,
                  5, 2, 1, B + 1, A, B,
                  3, 0, 0, 1,
                  2, 9, 1,
                  3, 2, 1, 0,
                  3, 0, 1, 1,
                  5, 0, 1, 2, 2, 0,
                  2, 1, 0,
                  1, -2,
                  5, 0, 0, 2, 2, 0,
                  5, 2, 2, 0, A, B]
        self.assertEqual(answers(calls), wanted)

    def test_one_call(self):
        self.assertEqual(answers([1, 0]), [5, 0, 0, 0, 0, 0])
        self.assertEqual(answers([3, 10]), [1, -2])
        self.assertEqual([answers([number]) for number in (5, 6, 7)], [[1, -7], [3, 0, 0, 0], [1, -7]])
        self.assertEqual(answers([8, 0]), [5, 0, 0, 0, 0, 0])
        self.assertEqual(answers([9, 0]), [3, 0, 0, 1])

    def test_thirty_calls(self):
        self.assertEqual(answers([1, 2, 0, A] * 30)[-6:], [5, 0, 1, 30, 30, 0])

    def test_in_any_order(self):
        for turn in range(10):
            for step in (1, 3, 7, 9):
                order = [EACH[(turn + step * number) % 10] for number in range(30)]
                told = ask(*[call for call, length in order])
                for answer, (call, length) in zip(told, order, strict=True):
                    if call == shows():
                        length += answer[0]
                    self.assertTrue(answer == [-7] or len(answer) == length, call)

    def test_what_is_behind_a_refused_call_is_still_read(self):
        self.assertEqual(answers([0, 0, 1, 256, 1, 2, 0, 256, 2, 10, 1, 6, 3, 10, 4, 10, 1, 1, 0]),
                         [1, -1, 1, -1, 1, -2, 1, -2, 1, -2, 5, 0, 0, 0, 0, 0])
        self.assertEqual(answers([5, 7, 8, 2, 0, 256, 9, 10, 6]), [1, -7, 1, -7, 1, -1, 1, -2, 3, 0, 0, 0])

    def test_the_longest_rows(self):
        self.assertEqual(answers([0, 0, 80] + [1] * 80 + [1, 160] + [6] * 160 + [2, 0, 160] + [6] * 160 + [3, 0]),
                         [1, -1, 1, -1, 1, -1, 1, 0])
        self.assertEqual(answers([8, 160] + [6] * 160 + [8, 120] + [14, 0, 4294967295] * 40),
                         [1, -1, 5, 0, 0, 0, 0, 0])

    def test_many_calls_together(self):
        self.assertEqual(answers(CALLS), ANSWERS)

    def test_what_is_handed_in_is_not_changed(self):
        calls = Untouched(CALLS)
        self.assertEqual(answers(calls), ANSWERS)
        self.assertEqual(list(calls), CALLS)

    def test_what_is_given_back_is_a_list_of_its_own(self):
        first = answers(CALLS)
        self.assertIs(type(first), list)
        first.clear()
        self.assertEqual(answers(CALLS), ANSWERS)

    def test_whole_numbers_alone_are_given_back(self):
        self.assertEqual({type(number) for number in answers(CALLS)}, {int})

    def test_nothing_is_kept_from_one_time_to_the_next(self):
        calls = list(CALLS)
        self.assertEqual([answers(calls) for turn in range(3)], [ANSWERS] * 3)
        self.assertEqual(answers(flat([get(0), do(), record(5, 1)])), [1, 0, 5, 0, 0, 0, 0, 0, 1, 0])
        self.assertEqual(answers(flat([shows(), undo(), stop(), period(1)])), [3, 0, 0, 0, 1, -7, 1, -7, 3, 0, 0, 1])


if __name__ == "__main__":
    unittest.main()
