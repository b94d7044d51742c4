"""Recording from record to stop: what the register has then, and what playing it does."""

import unittest

from tests.helper import MOST, ask, do, fill, get, last, period, record, shows, stop, text, undo, would

A, B, C = b"abc"

STAY = (6,)


class Stop(unittest.TestCase):
    def test_nothing_is_recorded(self):
        self.assertEqual(ask(stop()), [[-7]])
        self.assertEqual(ask(text(0, b"a"), fill(0, STAY), do((13, 0)), stop(), get(0))[3:], [[-7], [1, 6]])

    def test_a_refused_record_is_none(self):
        self.assertEqual(ask(record(10, 0), stop()), [[-2], [-7]])

    def test_answers_the_register_and_how_many_commands(self):
        self.assertEqual(ask(record(7, 0), do((0, A), (0, B)), do(STAY), stop())[2:], [[0, 1, 2, 0, 0], [7, 3]])

    def test_the_register_has_what_was_recorded(self):
        row = [(0, A), (14, 3, MOST), (1,), (15, 9), (4, B)]
        calls = [record(0, 0), do(*row[:2]), do(*row[2:]), stop(), get(0)]
        self.assertEqual(ask(*calls)[3:], [[0, 5], [5, 0, A, 14, 3, MOST, 1, 15, 9, 4, B]])

    def test_each_register(self):
        for slot in range(10):
            calls = [record(slot, 0), do((0, A)), stop()] + [get(other) for other in range(10)]
            wanted = [[0]] * 10
            wanted[slot] = [1, 0, A]
            self.assertEqual(ask(*calls)[2:], [[slot, 1]] + wanted)

    def test_from_nothing_is_instead_of_what_the_register_has(self):
        calls = [fill(3, (0, A), (0, B)), record(3, 0), do((0, C)), stop(), get(3)]
        self.assertEqual(ask(*calls)[3:], [[3, 1], [1, 0, C]])

    def test_more_is_behind_what_the_register_has(self):
        calls = [fill(3, (0, A), (0, B)), record(3, 1), do((0, C)), stop(), get(3)]
        self.assertEqual(ask(*calls)[3:], [[3, 3], [3, 0, A, 0, B, 0, C]])

    def test_more_of_a_register_without_commands(self):
        self.assertEqual(ask(record(3, 1), do((0, C)), stop(), get(3))[2:], [[3, 1], [1, 0, C]])

    def test_no_do_at_all(self):
        setup = [fill(2, (0, A))]
        self.assertEqual(ask(*setup, record(2, 0), stop(), get(2))[2:], [[2, 0], [0]])
        self.assertEqual(ask(*setup, record(2, 1), stop(), get(2))[2:], [[2, 1], [1, 0, A]])
        self.assertEqual(ask(*setup, record(2, 0), do(), stop(), get(2))[3:], [[2, 0], [0]])

    def test_what_was_set_meanwhile_is_gone(self):
        for more, wanted in ((0, [1, 0, C]), (1, [2, 0, A, 0, C])):
            calls = [fill(2, (0, A)), record(2, more), fill(2, (0, B), (0, B)), do((0, C)), get(2), stop(), get(2)]
            self.assertEqual(ask(*calls)[4:], [[2, 0, B, 0, B], [2, wanted[0]], wanted])

    def test_set_of_another_register_meanwhile_stays(self):
        calls = [record(2, 0), fill(3, (0, B)), do((0, C)), stop(), get(2), get(3)]
        self.assertEqual(ask(*calls)[3:], [[2, 1], [1, 0, C], [1, 0, B]])

    def test_the_register_is_as_it_was_till_stop(self):
        calls = [fill(0, (0, A)), record(0, 0), do((0, B)), do((13, 0)), stop(), do((13, 0)), shows(), get(0)]
        # What is recorded plays the register itself: behind stop it is played 6 deep, and fails there.
        self.assertEqual(ask(*calls)[3:], [[0, 1, 2, 2, 0], [0, 2], [1, 6, 8, 8, 0],
                                           [8, 8, 0] + [B, A] + [B] * 6, [2, 0, B, 13, 0]])

    def test_nothing_is_recorded_behind_it(self):
        calls = [record(0, 0), do((0, A)), stop(), do((0, B)), stop(), get(0)]
        self.assertEqual(ask(*calls)[2:], [[0, 1], [0, 1, 2, 2, 0], [-7], [1, 0, A]])

    def test_40_are_no_end_behind_it(self):
        calls = [record(0, 0), do(*[STAY] * 40), do(STAY), stop(), do(STAY)]
        self.assertEqual(ask(*calls)[2:], [[-5], [0, 40], [0, 1, 0, 0, 0]])

    def test_set_behind_it_changes_the_register(self):
        self.assertEqual(ask(record(0, 0), do((0, A)), stop(), fill(0, STAY), get(0))[3:], [[1], [1, 6]])

    def test_record_and_stop_twice(self):
        first = [record(0, 0), do((0, A)), stop()]
        self.assertEqual(ask(*first, record(0, 1), do((0, B)), stop(), get(0))[3:],
                         [[1], [0, 1, 2, 2, 0], [0, 2], [2, 0, A, 0, B]])
        self.assertEqual(ask(*first, record(0, 0), do((0, B)), stop(), get(0))[3:],
                         [[0], [0, 1, 2, 2, 0], [0, 1], [1, 0, B]])
        self.assertEqual(ask(*first, record(1, 0), do((0, B)), stop(), get(0), get(1))[3:],
                         [[0], [0, 1, 2, 2, 0], [1, 1], [1, 0, A], [1, 0, B]])
        self.assertEqual(ask(*first, record(1, 1), stop(), get(0), get(1))[3:], [[0], [1, 0], [1, 0, A], [0]])

    def test_two_registers_that_had_one_row_part(self):
        calls = [fill(0, (0, A)), record(0, 1), stop(), record(0, 1), do((0, B)), get(0), stop(), get(0)]
        self.assertEqual(ask(*calls)[5:], [[1, 0, A], [0, 2], [2, 0, A, 0, B]])

    def test_a_do_that_fails_is_recorded_whole(self):
        calls = [record(0, 0), do((0, A), (3,), (0, B)), do((1,)), stop(), get(0)]
        self.assertEqual(ask(*calls)[1:], [[1, 2, 1, 1, 0], [0, 1, 1, 0, 0], [0, 4], [4, 0, A, 3, 0, B, 1]])

    def test_a_refused_do_is_not_recorded(self):
        setup = [text(0, b"ab"), fill(1, (8,)), fill(2, *[STAY] * 40), fill(3, *[(13, 2)] * 40), record(0, 0)]
        refused = [do((0, A), (0, 256)), do(*[STAY] * 41), do((15, 1)), do(*[(13, 3)] * 13)]
        self.assertEqual(ask(*setup, do(STAY), *refused, do((2,)), stop(), get(0))[6:],
                         [[-1], [-1], [-9], [-8], [0, 1, 2, 1, 0], [0, 2], [2, 6, 2]])

    def test_a_do_that_does_not_fit_is_not_recorded_in_part(self):
        calls = [record(0, 0), do(*[STAY] * 39), do((7,), (7,)), stop(), get(0)]
        self.assertEqual(ask(*calls)[2:], [[-5], [0, 39], [39] + [6] * 39])

    def test_40_commands(self):
        calls = [record(0, 0), do(*[STAY] * 39), do((7,)), do(), stop(), get(0)]
        self.assertEqual(ask(*calls)[4:], [[0, 40], [40] + [6] * 39 + [7]])

    def test_no_other_call_is_recorded(self):
        others = [text(0, b"a"), fill(1, (0, B)), get(1), record(1, 0), shows(), undo(), would((0, C)), period(1)]
        self.assertEqual(ask(record(0, 0), do(STAY), *others, stop(), get(0))[-2:], [[0, 1], [1, 6]])

    def test_text_stays_apart_from_what_is_recorded(self):
        calls = [record(0, 0), do((0, A)), text(0, b""), do((0, B)), stop(), get(0)]
        self.assertEqual(ask(*calls)[4:], [[0, 2], [2, 0, A, 0, B]])

    def test_it_changes_nothing_of_the_editor(self):
        calls = [text(1, b"abc"), record(0, 0), do((11,)), stop(), shows()]
        self.assertEqual(last(*calls), [3, 1, B + 1, A, B, C])


class PlayedWhereItBegan(unittest.TestCase):
    """What was recorded, played where it began, does what was done."""

    BEGIN = text(2, b"abcabc")
    MACROS = [fill(1, (2,)), fill(2, (9, A), (3,), (7,), (0, B)), fill(3, (8,), (2,))]
    SESSIONS = [
        [do((0, A)), do((1,), (1,)), do((3,))],
        [do((11,), (7,)), do((12,), (12,))],
        [do((15, 1)), do((0, C), (6,))],
        [do((14, 3, 3)), do((13, 2), (4, B), (5, A))],
        [do((6,), (14, 2, 1)), do(), do((15, 3))],
        [do()],
        [],
    ]

    def test_behind_the_same_text(self):
        for session in self.SESSIONS:
            done = last(*self.MACROS, self.BEGIN, *session, shows())
            calls = [self.BEGIN, record(0, 0), *session, stop(), self.BEGIN, do((13, 0)), shows()]
            self.assertEqual(last(*self.MACROS, *calls), done)

    def test_behind_undoing_all(self):
        for session in self.SESSIONS:
            done = last(*self.MACROS, self.BEGIN, *session, shows())
            calls = [self.BEGIN, record(0, 0), *session, stop(), *[undo()] * len(session), do((13, 0)), shows()]
            self.assertEqual(last(*self.MACROS, *calls), done)

    def test_as_one_do_would(self):
        for session in self.SESSIONS:
            calls = [*self.MACROS, self.BEGIN, record(0, 0), *session, stop(), get(0)]
            numbers = last(*calls)[1:]
            told = ask(*self.MACROS, self.BEGIN, [1, len(numbers)] + numbers, shows())[-2:]
            self.assertEqual(ask(*self.MACROS, fill(0), [2, 0, len(numbers)] + numbers, self.BEGIN,
                                 do((13, 0)), shows())[-2:], told)


if __name__ == "__main__":
    unittest.main()
