"""How calls are laid out, how answers are given back, and that nothing is changed or kept."""

import unittest

from macroplays.editor import answers
from tests.helper import do, fill, flat, get, record, text

A, B = b"ab"


class Untouched(list):
    """A list that tells of whoever changes it, even if only for a while."""

    def refuse(self, *args, **kwargs):
        raise AssertionError("the list that was handed in is changed")

    __setitem__ = __delitem__ = __iadd__ = __imul__ = refuse
    append = extend = insert = pop = remove = clear = sort = reverse = refuse


CALLS = flat([
    text(1, b"ab"), text(9, b"ab"), fill(0, (0, A), (14, 1, 3)), fill(1, (8,)), get(0), get(10),
    do((13, 0)), do((15, 1)), do((0, 256)), record(0, 1), record(1, 0), do(*[(6,)] * 38), do((6,)), do(),
])
ANSWERS = flat([
    [1, 2], [1, -1], [1, 2], [1, 1], [6, 2, 0, A, 14, 1, 3], [1, -2],
    [5, 1, 2, 3, 2, 0], [5, 0, 1, 3, 2, 0], [1, -1], [1, 2], [1, -7], [5, 0, 38, 3, 0, 0], [1, -5],
    [5, 0, 0, 3, 0, 0],
])


class Interface(unittest.TestCase):
    def test_calls_and_answers_as_they_are_laid_out(self):
        calls = [0, 1, 2, A, B,
                 2, 3, 5, 0, 255, 14, 9, 4294967295,
                 3, 3,
                 1, 3, 11, 13, 3,
                 4, 3, 1,
                 0, 3, 2, A, B,
                 1, 0]
        wanted = [1, 2,
                  1, 2,
                  6, 2, 0, 255, 14, 9, 4294967295,
                  5, 0, 2, 3, 2, B + 1,
                  1, 2,
                  1, -1,
                  5, 0, 0, 3, 2, B + 1]
        self.assertEqual(answers(calls), wanted)

    def test_one_call(self):
        self.assertEqual(answers([1, 0]), [5, 0, 0, 0, 0, 0])
        self.assertEqual(answers([3, 10]), [1, -2])

    def test_thirty_calls(self):
        self.assertEqual(answers([1, 2, 0, A] * 30)[-6:], [5, 0, 1, 30, 30, 0])

    def test_what_is_behind_a_refused_call_is_still_read(self):
        self.assertEqual(answers([0, 0, 1, 256, 1, 2, 0, 256, 2, 10, 1, 6, 3, 10, 4, 10, 1, 1, 0]),
                         [1, -1, 1, -1, 1, -2, 1, -2, 1, -2, 5, 0, 0, 0, 0, 0])

    def test_the_longest_rows(self):
        self.assertEqual(answers([0, 0, 80] + [1] * 80 + [1, 160] + [6] * 160 + [2, 0, 160] + [6] * 160 + [3, 0]),
                         [1, -1, 1, -1, 1, -1, 1, 0])

    def test_many_calls_together(self):
        self.assertEqual(answers(CALLS), ANSWERS)

    def test_what_is_handed_in_is_not_changed(self):
        calls = Untouched(CALLS)
        self.assertEqual(answers(calls), ANSWERS)
        self.assertEqual(list(calls), CALLS)

    def test_what_is_given_back_is_a_list_of_its_own(self):
        first = answers(CALLS)
        self.assertIs(type(first), list)
        first.clear()
        self.assertEqual(answers(CALLS), ANSWERS)

    def test_whole_numbers_alone_are_given_back(self):
        self.assertEqual({type(number) for number in answers(CALLS)}, {int})

    def test_nothing_is_kept_from_one_time_to_the_next(self):
        calls = list(CALLS)
        self.assertEqual([answers(calls) for turn in range(3)], [ANSWERS] * 3)
        self.assertEqual(answers(flat([get(0), do(), record(5, 1)])), [1, 0, 5, 0, 0, 0, 0, 0, 1, 0])


if __name__ == "__main__":
    unittest.main()
