"""The calls text, do, set, get and record: what they answer, and what they refuse."""

import unittest

from tests.helper import MOST, ask, do, fill, get, last, record, text, text_after

A, B, C, Z = b"abcz"

STAY = (6,)
BAD_COMMANDS = [(number, 256) for number in (0, 4, 5, 9, 10)] + [(0, MOST)]
BAD_COMMANDS += [(13, 10), (14, 10, 1), (14, 10, 0), (15, 10), (13, MOST), (14, MOST, 0), (15, MOST)]
GOOD_COMMANDS = [(number, 255) for number in (0, 4, 5, 9, 10)]
GOOD_COMMANDS += [(13, 9), (14, 9, 0), (14, 9, MOST), (14, 0, 256), (15, 9)]


class Text(unittest.TestCase):
    def test_answers_how_many_bytes(self):
        self.assertEqual(ask(text(0, b"")), [[0]])
        self.assertEqual(ask(text(1, b"abc"), do()), [[3], [0, 0, 3, 1, 0]])
        self.assertEqual(text_after(text(1, b"\x00\xffa")), b"\x00\xffa")

    def test_is_instead_of_what_there_was(self):
        calls = [text(3, b"abc"), do((0, Z)), text(1, b"de")]
        self.assertEqual(last(*calls, do()), [0, 0, 2, 1, 0])
        self.assertEqual(text_after(*calls), b"de")

    def test_nothing_is_held(self):
        calls = [text(0, b"abc"), do((11,)), text(0, b"d"), do((12,))]
        self.assertEqual(ask(*calls), [[3], [0, 1, 3, 0, A + 1], [1], [1, 1, 1, 0, 0]])

    def test_as_many_bytes_as_may_be(self):
        self.assertEqual(ask(text(60, [255] * 60), do()), [[60], [0, 0, 60, 60, 0]])
        self.assertEqual(ask(text(0, [7] * 61)), [[-1]])
        self.assertEqual(ask(text(0, [7] * 80)), [[-1]])

    def test_a_byte_above_255(self):
        self.assertEqual(ask(text(0, [255])), [[1]])
        for wrong in ([256], [1, 256, 1], [MOST], [0] * 59 + [256]):
            self.assertEqual(ask(text(0, wrong)), [[-1]])

    def test_a_place_beyond_the_text(self):
        self.assertEqual(ask(text(3, b"abc"), text(0, b"")), [[3], [0]])
        self.assertEqual(ask(text(4, b"abc"), text(1, b""), text(MOST, b"abc")), [[-1]] * 3)

    def test_refused_it_changes_nothing(self):
        for wrong in (text(0, [256]), text(0, [1] * 61), text(2, [1])):
            calls = [text(1, b"abc"), do((11,)), wrong]
            self.assertEqual(ask(*calls, do())[-2:], [[-1], [0, 0, 3, 1, B + 1]])
            self.assertEqual(text_after(*calls), b"abc")

    def test_registers_stay(self):
        calls = [fill(2, (0, A)), text(0, b"b"), get(2), do((13, 2))]
        self.assertEqual(ask(*calls)[2:], [[1, 0, A], [0, 1, 2, 1, 0]])

    def test_what_is_recorded_stays(self):
        calls = [record(0, 0), do(*[STAY] * 40), text(0, b"b"), record(1, 0), do(STAY), do()]
        self.assertEqual(ask(*calls)[2:], [[1], [-7], [-5], [0, 0, 1, 0, 0]])


class Do(unittest.TestCase):
    def test_40_commands(self):
        self.assertEqual(last(do(*[STAY] * 40)), [0, 40, 0, 0, 0])
        self.assertEqual(last(do(*[(0, A)] * 40)), [0, 40, 40, 40, 0])
        self.assertEqual(last(do(*[(14, 9, MOST)] * 40)), [0, 0, 0, 0, 0])

    def test_41_commands(self):
        for row in ([STAY] * 41, [(0, A)] * 41, [STAY] * 160, [(14, 9, 0)] * 41):
            self.assertEqual(ask(do(*row), do()), [[-1], [0, 0, 0, 0, 0]])

    def test_what_is_beyond(self):
        for command in BAD_COMMANDS:
            self.assertEqual(ask(do((0, A), command), do()), [[-1], [0, 0, 0, 0, 0]], command)

    def test_what_is_not_beyond(self):
        for command in GOOD_COMMANDS:
            self.assertGreaterEqual(last(do(command))[0], 0, command)

    def test_refused_also_where_it_would_not_be_reached(self):
        for command in BAD_COMMANDS:
            self.assertEqual(last(do((3,), command)), [-1], command)

    def test_of_several_refusals_the_first(self):
        setup = [text(0, b"ab"), fill(0, (8,))]
        self.assertEqual(last(*setup, do((15, 0))), [-9])
        self.assertEqual(last(*setup, do((15, 0), (0, 256))), [-1])
        self.assertEqual(last(*setup, do((15, 0), *[STAY] * 40)), [-1])


class SetAndGet(unittest.TestCase):
    def test_at_first_none(self):
        self.assertEqual(ask(*[get(slot) for slot in range(10)]), [[0]] * 10)

    def test_set_answers_how_many_commands_and_get_tells_them(self):
        row = [(0, A), (1,), (14, 3, MOST), (15, 9)]
        self.assertEqual(ask(fill(4, *row), get(4)), [[4], [4, 0, A, 1, 14, 3, MOST, 15, 9]])

    def test_every_command_comes_back_as_it_was_told(self):
        row = [(0, 255), (1,), (2,), (3,), (4, 0), (5, 1), (6,), (7,), (8,), (9, 2), (10, 3), (11,), (12,),
               (13, 9), (14, 0, 0), (15, 5)]
        told = [number for command in row for number in command]
        self.assertEqual(ask(fill(0, *row), get(0)), [[16], [16] + told])

    def test_each_register_is_its_own(self):
        calls = [fill(0, (1,)), fill(9, (2,), (2,)), get(0), get(9), get(1)]
        self.assertEqual(ask(*calls), [[1], [2], [1, 1], [2, 2, 2], [0]])

    def test_set_is_instead_of_what_it_had(self):
        self.assertEqual(ask(fill(0, (1,), (2,)), fill(0, (3,)), get(0)), [[2], [1], [1, 3]])
        self.assertEqual(ask(fill(0, (1,), (2,)), fill(0), get(0)), [[2], [0], [0]])

    def test_set_does_nothing_to_the_editor(self):
        self.assertEqual(last(text(1, b"ab"), fill(0, (3,)), do()), [0, 0, 2, 1, 0])

    def test_no_such_register(self):
        self.assertEqual(ask(fill(9), get(9)), [[0], [0]])
        for slot in (10, 255, MOST):
            self.assertEqual(ask(fill(slot, (1,)), get(slot)), [[-2], [-2]])

    def test_set_40_commands_and_41(self):
        self.assertEqual(ask(fill(0, *[(14, 1, 2)] * 40)), [[40]])
        self.assertEqual(ask(fill(0, *[(0, A)] * 40), fill(0, *[(0, A)] * 41), get(0))[1:],
                         [[-1], [40] + [0, A] * 40])
        self.assertEqual(ask(fill(0, *[STAY] * 40), fill(0, *[STAY] * 41), get(0)), [[40], [-1], [40] + [6] * 40])

    def test_set_what_is_beyond(self):
        for command in BAD_COMMANDS:
            self.assertEqual(ask(fill(0, (1,)), fill(0, (2,), command), get(0)), [[1], [-1], [1, 1]], command)

    def test_set_what_is_not_beyond(self):
        for command in GOOD_COMMANDS:
            self.assertEqual(ask(fill(0, command)), [[1]], command)

    def test_of_several_refusals_the_first(self):
        self.assertEqual(ask(fill(10, (0, 256)), fill(10, *[STAY] * 41)), [[-2], [-2]])

    def test_a_register_is_played_as_it_is_when_it_is_played(self):
        calls = [fill(0, (13, 1)), fill(1, (0, A)), do((13, 0)), fill(1, (0, B)), do((13, 0))]
        self.assertEqual(text_after(*calls), b"ab")


class Record(unittest.TestCase):
    def test_from_nothing(self):
        self.assertEqual(ask(record(0, 0)), [[0]])
        calls = [fill(0, *[STAY] * 30), record(0, 0), do(*[STAY] * 40), do(STAY)]
        self.assertEqual(ask(*calls)[1:], [[0], [0, 40, 0, 0, 0], [-5]])

    def test_behind_what_the_register_has(self):
        self.assertEqual(ask(record(0, 1)), [[0]])
        calls = [fill(0, *[STAY] * 30), record(0, 1), do(*[STAY] * 11), do(*[STAY] * 10), do(STAY)]
        self.assertEqual(ask(*calls)[1:], [[30], [-5], [0, 10, 0, 0, 0], [-5]])

    def test_behind_what_that_register_has_and_not_another(self):
        self.assertEqual(ask(fill(0, STAY), fill(1, STAY, STAY), record(1, 1))[2:], [[2]])

    def test_behind_a_full_register(self):
        calls = [fill(0, *[STAY] * 40), record(0, 1), do(), do(STAY)]
        self.assertEqual(ask(*calls)[1:], [[40], [0, 0, 0, 0, 0], [-5]])

    def test_no_such_register(self):
        self.assertEqual(ask(record(10, 0), record(MOST, 1), record(9, 0)), [[-2], [-2], [0]])

    def test_something_is_recorded(self):
        self.assertEqual(ask(record(0, 0), record(0, 0), record(1, 1)), [[0], [-7], [-7]])

    def test_of_several_refusals_the_first(self):
        self.assertEqual(ask(record(0, 0), record(10, 0)), [[0], [-2]])

    def test_refused_it_changes_nothing(self):
        full = [fill(1, *[STAY] * 40), record(0, 0), do(*[STAY] * 39)]
        self.assertEqual(ask(*full, record(1, 1), do(STAY), do(STAY))[3:], [[-7], [0, 1, 0, 0, 0], [-5]])
        self.assertEqual(ask(*full, record(1, 0), do(STAY, STAY))[3:], [[-7], [-5]])
        self.assertEqual(ask(record(10, 0), do(*[STAY] * 40), do(STAY))[1:], [[0, 40, 0, 0, 0], [0, 1, 0, 0, 0]])

    def test_commands_are_counted_not_numbers(self):
        calls = [record(0, 0), do(*[(14, 9, MOST)] * 40), do(STAY)]
        self.assertEqual(ask(*calls)[1:], [[0, 0, 0, 0, 0], [-5]])

    def test_what_is_played_is_not_recorded_one_by_one(self):
        calls = [fill(1, *[STAY] * 30), record(0, 0), do(*[(13, 1)] * 39), do(STAY), do(STAY)]
        self.assertEqual(ask(*calls)[2:], [[0, 1170, 0, 0, 0], [0, 1, 0, 0, 0], [-5]])

    def test_without_recording_there_is_no_end(self):
        self.assertEqual(ask(*[do(*[STAY] * 40)] * 3), [[0, 40, 0, 0, 0]] * 3)

    def test_a_do_that_fails_is_recorded_whole(self):
        calls = [record(0, 0), do((3,), *[STAY] * 38), do(STAY), do(STAY)]
        self.assertEqual(ask(*calls)[1:], [[1, 1, 0, 0, 0], [0, 1, 0, 0, 0], [-5]])

    def test_41_commands_change_nothing(self):
        calls = [record(0, 0), do(*[(0, A)] * 39), do((3,), (0, B)), do((6,), (11,)), do((1,))]
        self.assertEqual(ask(*calls)[1:], [[0, 39, 39, 39, 0], [-5], [-5], [0, 1, 39, 38, 0]])

    def test_what_is_refused_is_not_recorded(self):
        setup = [text(0, b"ab"), fill(1, (8,)), fill(2, *[STAY] * 40), fill(3, *[(13, 2)] * 40)]
        refused = [do((0, 256)), do(*[STAY] * 41), do((15, 1)), do(*[(13, 3)] * 13)]
        calls = setup + [record(0, 0), do(*[STAY] * 39)] + refused + [do(STAY), do(STAY)]
        self.assertEqual(ask(*calls)[6:], [[-1], [-1], [-9], [-8], [0, 1, 2, 0, 0], [-5]])

    def test_of_several_refusals_of_do_the_first(self):
        setup = [text(0, b"ab"), fill(1, (8,)), fill(2, *[STAY] * 40), fill(3, *[(13, 2)] * 40)]
        refused = [do((0, 256)), do((15, 1), (13, 10)), do((15, 1)), do(*[(13, 3)] * 13), do(STAY)]
        calls = setup + [record(0, 0), do(*[STAY] * 40)] + refused
        self.assertEqual(ask(*calls)[6:], [[-1], [-1], [-9], [-8], [-5]])

    def test_recording_does_not_change_the_register(self):
        calls = [fill(0, (0, A)), record(0, 0), do((0, B)), get(0), do((13, 0)), get(0)]
        self.assertEqual(ask(*calls)[2:], [[0, 1, 1, 1, 0], [1, 0, A], [0, 1, 2, 2, 0], [1, 0, A]])
        calls = [fill(0, (0, A)), record(0, 1), do((0, B)), get(0)]
        self.assertEqual(ask(*calls)[3:], [[1, 0, A]])

    def test_set_may_change_the_register_and_not_what_is_recorded(self):
        calls = [fill(0, *[STAY] * 30), record(0, 1), fill(0, (0, A), (0, B)), get(0), do((13, 0)),
                 do(*[STAY] * 10), do(*[STAY] * 9), do(STAY)]
        self.assertEqual(ask(*calls)[1:], [[30], [2], [2, 0, A, 0, B], [0, 2, 2, 2, 0],
                                           [-5], [0, 9, 2, 0, 0], [-5]])


if __name__ == "__main__":
    unittest.main()
