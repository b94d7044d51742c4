"""The call would: it answers as do does, and does nothing."""

import unittest

from tests.helper import (COUNT_OR_FAIL, MOST, ask, counter, do, fill, get, last, record, shows, stop, text, undo,
                          would)

A, B, C = b"abc"

STAY = (6,)

# Register 2 does 40 plain commands, register 3 does 1600; 4 holds and goes on; 5 plays itself.
MACROS = [fill(1, (8,)), fill(2, *[STAY] * 40), fill(3, *[(13, 2)] * 40), fill(4, (11,), (2,)),
          fill(5, (0, A), (13, 5))]
ROWS = [
    [],
    [(0, C)],
    [(0, C), (1,), (11,), (6,), (12,)],
    [(3,), (3,), (3,), (3,)],
    [(1,), (1,), (0, A)],
    [(13, 4)],
    [(15, 4)],
    [(14, 1, MOST)],
    [(14, 4, MOST)],
    [(13, 5)],
    [(15, 5)],
    [(13, 3)] * 12 + [(13, 2)] * 20,
    [STAY] * 40,
]
REFUSED = {
    -1: [[(0, 256)], [(0, A), (9, MOST)], [(13, 10)], [(14, 10, 0)], [(15, MOST)], [STAY] * 41, [STAY] * 160,
         [(15, 1), (0, 256)]],
    -8: [[(13, 3)] * 13, [(13, 3)] * 12 + [(13, 2)] * 20 + [STAY], [(3,)] + [(13, 3)] * 13, [(13, 3)] * 13 + [(15, 1)]],
    -9: [[(15, 1)], [(0, C), (15, 1)], [(15, 1)] + [(13, 3)] * 13],
}
BEGIN = text(1, b"abca")


class Would(unittest.TestCase):
    def test_answers_in_words(self):
        calls = [BEGIN, would((11,), (3,)), would((2,), (4, B), (3,)), would()]
        self.assertEqual(ask(*calls)[1:], [[0, 2, 3, 1, B + 1], [1, 2, 4, 2, 0], [0, 0, 4, 1, 0]])

    def test_at_the_very_beginning(self):
        self.assertEqual(ask(would(), would((0, A)), would((3,))), [[0, 0, 0, 0, 0], [0, 1, 1, 1, 0], [1, 1, 0, 0, 0]])

    def test_answers_as_do_does(self):
        for row in ROWS:
            told = ask(*MACROS, BEGIN, would(*row), would(*row), do(*row))[-3:]
            self.assertEqual(told[:2], [told[2]] * 2, row)
            self.assertEqual(len(told[2]), 5, row)

    def test_refuses_as_do_does(self):
        for number, rows in REFUSED.items():
            for row in rows:
                self.assertEqual(ask(*MACROS, BEGIN, would(*row), do(*row))[-2:], [[number]] * 2, row)

    def test_a_row_of_playings(self):
        self.assertEqual(last(*counter(0), would((14, COUNT_OR_FAIL, 1000)))[0], 0)
        self.assertEqual(last(*counter(0), would((14, COUNT_OR_FAIL, 1001))), [-8])

    def every_row(self):
        return ROWS + [row for rows in REFUSED.values() for row in rows]

    def test_the_editor_is_as_without_it(self):
        for row in self.every_row():
            calls = [*MACROS, BEGIN, do((11,))]
            self.assertEqual(last(*calls, would(*row), shows()), last(*calls, shows()), row)

    def test_registers_are_as_without_it(self):
        gets = [get(slot) for slot in range(10)]
        for row in self.every_row():
            self.assertEqual(ask(*MACROS, BEGIN, would(*row), *gets)[-10:], ask(*MACROS, BEGIN, *gets)[-10:], row)

    def test_undo_is_as_without_it(self):
        for row in self.every_row():
            self.assertEqual(last(*MACROS, BEGIN, would(*row), undo()), [-7], row)
            calls = [*MACROS, BEGIN, do((0, C)), would(*row), undo(), shows(), would(*row), undo()]
            told = ask(*calls)[-5:]
            self.assertEqual(told[1:3] + told[4:], [[4, 1, 0], [4, 1, 0, A, B, C, A], [-7]], row)

    def test_a_recording_is_as_without_it(self):
        for row in self.every_row():
            calls = [*MACROS, BEGIN, record(0, 0), would(*row), do((2,)), would(*row), stop(), get(0), would(*row),
                     stop()]
            told = ask(*calls)
            self.assertEqual(told[-4:-2] + told[-1:], [[0, 1], [1, 2], [-7]], row)

    def test_while_something_is_recorded_it_is_never_too_long(self):
        full = [*MACROS, BEGIN, record(0, 0), do(*[STAY] * 40)]
        self.assertEqual(ask(*full, would(*[STAY] * 40), do(STAY), would(STAY))[-3:],
                         [[0, 40, 4, 0, 0], [-5], [0, 1, 4, 0, 0]])
        for row in ROWS:
            self.assertEqual(last(*full, would(*row)), last(*MACROS, BEGIN, do(STAY), would(*row)), row)
        for number, rows in REFUSED.items():
            for row in rows:
                self.assertEqual(last(*full, would(*row)), last(*MACROS, BEGIN, do(STAY), would(*row)), row)
                self.assertEqual(last(*full, text(0, b"ab"), would(*row)), [number], row)

    def test_nothing_is_counted_on_by_a_later_call(self):
        row = [(13, 3)] * 12 + [(13, 2)] * 20
        self.assertEqual(ask(*MACROS, would(*row), would(*row), do(*row), would(*row))[-4:], [[0, 20000, 0, 0, 0]] * 4)

    def test_it_plays_registers_as_they_are_now(self):
        calls = [would((13, 0)), fill(0, (0, A)), would((13, 0)), record(0, 0), do((0, A), (0, B)), would((13, 0)),
                 stop(), would((13, 0))]
        told = ask(*calls)
        self.assertEqual([told[0], told[2], told[5], told[7]],
                         [[0, 0, 0, 0, 0], [0, 1, 1, 1, 0], [0, 1, 3, 3, 0], [0, 2, 4, 4, 0]])


if __name__ == "__main__":
    unittest.main()
