"""The calls shows and undo."""

import unittest

from tests.helper import ask, do, fill, get, last, period, record, shows, stop, text, undo, would

A, B, C, Z = b"abcz"

STAY = (6,)


class Shows(unittest.TestCase):
    def test_at_the_beginning(self):
        self.assertEqual(ask(shows()), [[0, 0, 0]])

    def test_no_text(self):
        self.assertEqual(last(text(0, b""), shows()), [0, 0, 0])
        self.assertEqual(last(text(0, b"a"), do((11,), (3,)), shows()), [0, 0, A + 1])

    def test_the_editor_then_the_bytes(self):
        self.assertEqual(last(text(2, b"abc"), shows()), [3, 2, 0, A, B, C])
        self.assertEqual(last(text(0, [0, 255, 0]), shows()), [3, 0, 0, 0, 255, 0])

    def test_60_bytes(self):
        row = list(range(60))
        self.assertEqual(last(text(60, row), shows()), [60, 60, 0] + row)
        self.assertEqual(last(text(0, row[1:]), do((0, 0)), shows()), [60, 1, 0] + row)

    def test_what_is_held(self):
        self.assertEqual(last(text(0, [0, 255]), do((11,)), shows()), [2, 0, 1, 0, 255])
        self.assertEqual(last(text(1, [0, 255]), do((11,)), shows()), [2, 1, 256, 0, 255])

    def test_what_was_done(self):
        self.assertEqual(last(do((0, A), (0, B), (1,), (11,), (6,), (12,)), shows()), [3, 1, B + 1, B, A, B])

    def test_what_a_failed_do_left(self):
        self.assertEqual(last(do((0, A), (3,), (0, B)), shows()), [1, 1, 0, A])

    def test_it_changes_nothing(self):
        calls = [text(0, b"ab"), do((11,)), shows(), shows(), undo(), shows()]
        self.assertEqual(ask(*calls)[2:], [[2, 0, A + 1, A, B], [2, 0, A + 1, A, B], [2, 0, 0], [2, 0, 0, A, B]])


class Undo(unittest.TestCase):
    def test_no_do_yet(self):
        self.assertEqual(ask(undo()), [[-7]])
        self.assertEqual(ask(text(1, b"ab"), fill(0, STAY), undo(), shows())[2:], [[-7], [2, 1, 0, A, B]])

    def test_the_editor_is_as_it_was_ahead(self):
        calls = [text(1, b"abc"), do((3,), (0, Z), (6,)), shows(), undo(), shows()]
        self.assertEqual(ask(*calls)[2:], [[3, 0, 0, A, Z, C], [3, 1, 0], [3, 1, 0, A, B, C]])

    def test_to_the_very_beginning(self):
        self.assertEqual(ask(do((0, A)), undo(), shows())[1:], [[0, 0, 0], [0, 0, 0]])

    def test_behind_each_of_several(self):
        calls = []
        for byte in (A, B, C):
            calls += [do((0, byte)), shows(), undo(), shows(), do((0, byte))]
        self.assertEqual(ask(*calls)[1::5], [[1, 1, 0, A], [2, 2, 0, A, B], [3, 3, 0, A, B, C]])
        self.assertEqual(ask(*calls)[3::5], [[0, 0, 0], [1, 1, 0, A], [2, 2, 0, A, B]])

    def test_one_behind_another_till_there_is_nothing(self):
        calls = [do((0, A)), do((0, B)), do((0, C)), undo(), shows(), undo(), shows(), undo(), shows(), undo(),
                 undo(), shows()]
        self.assertEqual(ask(*calls)[3:], [[2, 2, 0], [2, 2, 0, A, B], [1, 1, 0], [1, 1, 0, A], [0, 0, 0], [0, 0, 0],
                                           [-7], [-7], [0, 0, 0]])

    def test_what_is_undone_is_not_undone_again(self):
        calls = [do((0, A)), do((0, B)), undo(), do((0, C)), shows(), undo(), shows(), undo(), shows(), undo()]
        self.assertEqual(ask(*calls)[4:], [[2, 2, 0, A, C], [1, 1, 0], [1, 1, 0, A], [0, 0, 0], [0, 0, 0], [-7]])

    def test_as_many_as_there_may_be(self):
        calls = [do((0, A))] * 15 + [undo()] * 15
        self.assertEqual(ask(*calls)[15:], [[left, left, 0] for left in range(14, -1, -1)])
        self.assertEqual(ask(*[do((0, A))] * 29, undo())[29:], [[28, 28, 0]])

    def test_behind_text(self):
        calls = [do((0, A)), text(1, b"bc"), undo(), shows()]
        self.assertEqual(ask(*calls)[2:], [[-7], [2, 1, 0, B, C]])

    def test_back_to_text_and_not_further(self):
        calls = [do((0, A)), do((0, A)), text(1, b"bc"), do((3,)), undo(), shows(), undo()]
        self.assertEqual(ask(*calls)[4:], [[2, 1, 0], [2, 1, 0, B, C], [-7]])

    def test_a_refused_text_leaves_it(self):
        calls = [do((0, A)), text(3, b"bc"), text(0, [256]), undo(), shows()]
        self.assertEqual(ask(*calls)[1:], [[-1], [-1], [0, 0, 0], [0, 0, 0]])

    def test_a_do_that_failed_in_its_midst(self):
        calls = [text(0, b"ab"), do((3,), (11,), (1,), (0, Z)), shows(), undo(), shows()]
        self.assertEqual(ask(*calls)[1:], [[1, 3, 1, 0, B + 1], [1, 0, B + 1, B], [2, 0, 0], [2, 0, 0, A, B]])

    def test_a_do_that_failed_at_once(self):
        calls = [do((0, A)), do((2,)), undo(), undo(), undo()]
        self.assertEqual(ask(*calls)[1:], [[1, 1, 1, 1, 0], [1, 1, 0], [0, 0, 0], [-7]])

    def test_a_do_without_commands(self):
        self.assertEqual(ask(do((0, A)), do(), undo(), undo(), undo())[2:], [[1, 1, 0], [0, 0, 0], [-7]])

    def test_a_do_that_leaves_all_as_it_was(self):
        self.assertEqual(ask(do((0, A)), do((7,)), undo(), undo(), undo())[2:], [[1, 1, 0], [0, 0, 0], [-7]])

    def test_a_refused_do_is_none(self):
        setup = [fill(1, (8,)), fill(2, *[STAY] * 40), fill(3, *[(13, 2)] * 40), record(0, 0), text(0, b"ab")]
        refused = [do((3,), (0, 256)), do((3,), *[STAY] * 40), do((15, 1)), do(*[(13, 3)] * 13)]
        told = ask(*setup, *refused, undo(), do(*[STAY] * 40), *refused, do((3,)), undo(), undo(), shows())
        self.assertEqual(told[5:], [[-1], [-1], [-9], [-8], [-7], [0, 40, 2, 0, 0], [-1], [-1], [-9], [-8],
                                    [-5], [2, 0, 0], [-7], [2, 0, 0, A, B]])

    def test_what_is_held_comes_back(self):
        calls = [text(0, b"ab"), do((11,)), do((2,), (11,)), undo(), do((12,)), shows(), undo(), undo(), do((12,))]
        self.assertEqual(ask(*calls)[3:], [[2, 0, A + 1], [0, 1, 3, 1, A + 1], [3, 1, A + 1, A, A, B],
                                           [2, 0, A + 1], [2, 0, 0], [1, 1, 2, 0, 0]])

    def test_what_was_played(self):
        calls = [fill(0, (0, A)), fill(1, (14, 0, 7)), do((13, 1), (14, 1, 3)), undo(), shows()]
        self.assertEqual(ask(*calls)[2:], [[0, 28, 28, 28, 0], [0, 0, 0], [0, 0, 0]])

    def test_registers_stay(self):
        calls = [do((0, A)), fill(0, (0, B)), record(1, 0), do((0, C)), stop(), undo(), undo(), get(0), get(1)]
        self.assertEqual(ask(*calls)[5:], [[1, 1, 0], [0, 0, 0], [1, 0, B], [1, 0, C]])

    def test_what_is_recorded_stays(self):
        calls = [do((0, A)), record(0, 0), do((0, B)), undo(), do((0, C)), undo(), undo(), stop(), get(0)]
        self.assertEqual(ask(*calls)[3:], [[1, 1, 0], [0, 1, 2, 2, 0], [1, 1, 0], [0, 0, 0], [0, 2],
                                           [2, 0, B, 0, C]])

    def test_refused_it_changes_nothing(self):
        calls = [record(0, 0), do((0, A), (1,), (11,)), text(1, b"bc"), undo(), do((2,)), stop(), get(0), shows()]
        self.assertEqual(ask(*calls)[3:], [[-7], [0, 1, 2, 2, 0], [0, 4], [4, 0, A, 1, 11, 2], [2, 2, 0, B, C]])

    def test_no_other_call_is_undone(self):
        others = [fill(0, (0, A)), get(0), record(1, 0), stop(), shows(), would((0, A)), period(0)]
        self.assertEqual(last(*others, undo()), [-7])
        self.assertEqual(ask(do((0, B)), *others, undo(), undo())[-2:], [[0, 0, 0], [-7]])


if __name__ == "__main__":
    unittest.main()
