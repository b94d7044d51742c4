"""The call period: when a register played again and again fails or comes round."""

import itertools
import unittest

from tests.helper import (COUNT_OR_FAIL, COUNT_OR_STAY, COUNT_ROUND, MOST, ask, counter, do, fill, get, last, period,
                          record, shows, stop, text, undo)

A, B, C, D = b"abcd"

STAY = (6,)

# The first byte is held, goes, and comes back at the end.
ROTATE = [(6,), (11,), (3,), (7,), (12,), (6,)]


def period_of(data, *row):
    return last(text(0, data), fill(0, *row), period(0))


class Answers(unittest.TestCase):
    def test_a_register_without_commands(self):
        self.assertEqual(ask(*[period(slot) for slot in range(10)]), [[0, 0, 1]] * 10)
        self.assertEqual(last(text(1, b"ab"), fill(3, STAY), fill(3), period(3)), [0, 0, 1])

    def test_the_first_playing_fails(self):
        self.assertEqual(period_of(b"", (3,)), [1, 0])
        self.assertEqual(period_of(b"ab", (3,), (3,), (3,)), [1, 0])
        self.assertEqual(period_of(b"ab", (2,), (9, A), (0, C)), [1, 0])

    def test_a_later_playing_fails(self):
        self.assertEqual(period_of(b"abc", (3,)), [1, 3])
        self.assertEqual(period_of(b"abc", (2,)), [1, 3])
        self.assertEqual(period_of(b"abcde", (3,), (3,)), [1, 2])
        self.assertEqual(period_of(b"", (0, A)), [1, 60])
        self.assertEqual(period_of(b"ba", (10, A), (2,)), [1, 1])

    def test_it_stays_as_it_is(self):
        self.assertEqual(period_of(b"ab", STAY), [0, 0, 1])
        self.assertEqual(period_of(b"ab", (0, C), (1,), (3,)), [0, 0, 1])

    def test_it_comes_round_to_the_beginning(self):
        self.assertEqual(period_of(b"ab", (8,)), [0, 0, 2])
        self.assertEqual(period_of(b"abc", (8,), (2,), (8,), (1,)), [0, 0, 3])
        self.assertEqual(period_of(b"abcdefg", *[(8,), (2,)] * 6, (6,)), [0, 0, 7])

    def test_it_comes_round_to_a_later_place(self):
        self.assertEqual(period_of(b"ab", (7,)), [0, 1, 1])
        self.assertEqual(last(text(0, b"aaab"), fill(1, (9, A), (3,), (7,)), fill(0, (6,), (15, 1), (6,)), period(0)),
                         [0, 3, 1])
        self.assertEqual(last(text(1, b"ab"), fill(0, (6,), (8,)), period(0)), [0, 1, 2])

    def test_it_is_the_least(self):
        self.assertEqual(period_of(b"aa", (8,)), [0, 0, 1])
        self.assertEqual(period_of(b"abab", *[(8,), (2,)] * 3, (6,)), [0, 0, 2])
        self.assertEqual(period_of(b"aaaa", *[(8,), (2,)] * 3, (6,)), [0, 0, 1])
        self.assertEqual(period_of(b"aabaab", *[(8,), (2,)] * 5, (6,)), [0, 0, 3])

    def test_what_is_held_counts(self):
        self.assertEqual(period_of(b"a", (11,)), [0, 1, 1])
        self.assertEqual(period_of(b"ab", (11,), (8,)), [0, 1, 2])
        self.assertEqual(period_of(b"abc", *ROTATE), [0, 1, 3])
        self.assertEqual(last(text(0, b"abc"), fill(0, *ROTATE), do((13, 0)), period(0)), [0, 0, 3])
        self.assertEqual(last(text(0, b"abc"), fill(0, *ROTATE), do((2,), (11,)), period(0)), [0, 1, 3])

    def test_the_place_counts(self):
        # One goes to the right, and from b to the beginning; the text stays.
        setup = [fill(0, (2,), (15, 1)), fill(1, (9, B), (6,))]
        self.assertEqual(last(*setup, text(0, b"aaab"), period(0)), [0, 0, 3])
        self.assertEqual(last(*setup, text(3, b"baab"), period(0)), [1, 1])
        self.assertEqual(last(*setup, text(0, b"baab"), period(0)), [0, 0, 3])
        self.assertEqual(last(text(3, b"aaaa"), fill(1, (1,)), fill(0, (15, 1)), period(0)), [0, 1, 1])

    def test_from_here(self):
        setup = [fill(0, (1,))]
        self.assertEqual(ask(*setup, text(3, b"abc"), period(0), do((1,)), period(0), do((6,)), period(0))[2::2],
                         [[1, 3], [1, 2], [1, 0]])

    def test_what_a_register_plays(self):
        self.assertEqual(last(text(0, b"ab"), fill(0, (14, 1, MOST)), fill(1, (8,)), period(0)), [0, 0, 2])
        self.assertEqual(last(text(0, b"ab"), fill(0, (14, 1, MOST - 1)), fill(1, (8,)), period(0)), [0, 0, 1])
        self.assertEqual(last(text(0, b"ab"), fill(0, (13, 1), (13, 1)), fill(1, (2,)), period(0)), [1, 1])
        self.assertEqual(last(text(0, b"ab"), fill(0, (15, 1)), fill(1, (2,)), period(0)), [0, 1, 1])

    def test_a_register_that_plays_itself(self):
        self.assertEqual(period_of(b"ab", (13, 0)), [1, 0])
        self.assertEqual(period_of(b"ab", (2,), (13, 0)), [1, 0])
        self.assertEqual(period_of(b"ab", (14, 0, 1)), [1, 0])
        self.assertEqual(period_of(b"ab", (14, 0, 0), (2,)), [1, 2])
        self.assertEqual(period_of(b"ab", (15, 0)), [0, 0, 1])
        self.assertEqual(period_of(b"a", (15, 0), (8,)), [1, 0])
        self.assertEqual(period_of(b"aaaaaaaa", (3,), (15, 0)), [1, 1])

    def test_six_deep(self):
        chain = [fill(slot, (13, slot + 1)) for slot in range(8)]
        self.assertEqual(last(text(0, b"abc"), *chain, fill(5, (2,)), period(0)), [1, 3])
        self.assertEqual(last(text(0, b"abc"), *chain, fill(5, (14, 6, 1)), fill(6, (2,)), period(0)), [1, 0])
        self.assertEqual(last(text(0, b"abc"), *chain, fill(6, (2,)), period(1)), [1, 3])
        self.assertEqual(last(text(0, b"abc"), *chain, fill(5, (15, 6)), fill(6, (2,)), period(0)), [0, 0, 1])

    def test_no_such_register(self):
        self.assertEqual(ask(fill(9, (3,)), period(9), period(10), period(255), period(MOST)),
                         [[1], [1, 0], [-2], [-2], [-2]])

    def test_each_register_is_its_own(self):
        calls = [text(0, b"ab"), fill(0, (8,)), fill(1, (2,)), fill(9, (7,)), period(0), period(1), period(2),
                 period(9)]
        self.assertEqual(ask(*calls)[4:], [[0, 0, 2], [1, 2], [0, 0, 1], [0, 1, 1]])


class AsPlayedOneByOne(unittest.TestCase):
    """What is told is what doing the playings shows."""

    COMMANDS = [(0, A), (1,), (2,), (3,), (4, A), (5, B), (6,), (7,), (8,), (10, A), (11,), (12,), (15, 1), (14, 2, 3)]
    MACROS = [fill(1, (9, A), (2,)), fill(2, (8,), (11,))]
    STEPS = 9

    def found(self, told):
        """What period should tell, from the answers of do and shows in turn; None where they don't reach."""
        states = [told[0]]
        for number in range(self.STEPS):
            if told[1 + 2 * number][0] == 1:
                return [1, number]
            state = told[2 + 2 * number]
            if state in states:
                return [0, states.index(state), len(states) - states.index(state)]
            states.append(state)
        return None

    def check(self, row, begin):
        calls = [*self.MACROS, begin, fill(0, *row), period(0), shows()] + [do((13, 0)), shows()] * self.STEPS
        told = ask(*calls)[4:]
        wanted = self.found(told[1:])
        if wanted is None:
            return 0
        self.assertEqual(told[0], wanted, row)
        return 1

    def test_short_registers(self):
        rows = [row for length in (1, 2) for row in itertools.product(self.COMMANDS, repeat=length)]
        rows += list(itertools.product(self.COMMANDS[1:], repeat=3))[::7]
        reached = 0
        for row in rows:
            for begin in (text(0, b"ab"), text(2, b"abba")):
                reached += self.check(row, begin)
        self.assertGreater(reached, 900)


class Limits(unittest.TestCase):
    # Register 0 does 40 plain commands, register 1 does 1600, register 2 does 39, register 3 does 10000 and exchanges.
    PLAIN = [fill(0, *[STAY] * 40), fill(1, *[(13, 0)] * 40), fill(2, *[STAY] * 39)]
    TURN_ROW = [(8,)] + [(13, 1)] * 6 + [(13, 0)] * 9 + [(13, 2)]

    # Register 0 does nothing: 1 playing. Register 1 is 41 playings, register 2 is 1641, register 3 is 20.
    EMPTY = [fill(1, *[(13, 0)] * 40), fill(2, *[(13, 1)] * 40), fill(3, *[(13, 0)] * 19)]

    def test_the_thousandth_playing_fails(self):
        self.assertEqual(last(*counter(1023 - 999), period(COUNT_OR_FAIL)), [1, 999])

    def test_the_next_one_would_fail(self):
        self.assertEqual(last(*counter(1023 - 1000), period(COUNT_OR_FAIL)), [-8])

    def test_it_comes_round_behind_the_thousandth(self):
        self.assertEqual(last(*counter(512 - 488, 9, behind=b"x"), period(COUNT_ROUND)), [0, 488, 512])
        self.assertEqual(last(*counter(1023 - 999, ahead=b"p"), period(COUNT_OR_STAY)), [0, 999, 1])

    def test_it_would_come_round_behind_the_next_one(self):
        self.assertEqual(last(*counter(512 - 489, 9, behind=b"x"), period(COUNT_ROUND)), [-8])
        self.assertEqual(last(*counter(1023 - 1000, ahead=b"p"), period(COUNT_OR_STAY)), [-8])

    def test_it_comes_round_to_the_beginning_behind_many(self):
        self.assertEqual(last(*counter(5, 9, behind=b"y"), period(COUNT_ROUND)), [0, 0, 512])

    def test_20000_plain_commands_in_one_playing(self):
        row = [(13, 1)] * 12 + [(13, 0)] * 20
        self.assertEqual(last(*self.PLAIN, fill(4, *row), period(4)), [0, 0, 1])
        self.assertEqual(last(*self.PLAIN, fill(4, *row, STAY), period(4)), [-8])
        self.assertEqual(last(*self.PLAIN, fill(4, STAY, *row), period(4)), [-8])

    def test_20000_plain_commands_in_several_playings(self):
        setup = [*self.PLAIN, text(0, b"ab")]
        self.assertEqual(last(*setup, fill(3, *self.TURN_ROW), period(3)), [0, 0, 2])
        self.assertEqual(last(*setup, fill(3, *self.TURN_ROW, STAY), period(3)), [-8])

    def test_the_last_plain_command_fails(self):
        row = [(13, 1)] * 12 + [(13, 0)] * 19 + [(13, 2)]
        self.assertEqual(last(*self.PLAIN, fill(4, *row, (1,)), period(4)), [1, 0])
        self.assertEqual(last(*self.PLAIN, fill(4, *row, STAY, (1,)), period(4)), [-8])

    def test_20000_playings_in_one(self):
        # The register itself is one of them.
        row = [(13, 2)] * 12 + [(13, 1)] * 7 + [(13, 3)]
        self.assertEqual(last(*self.EMPTY, fill(4, *row), period(4)), [0, 0, 1])
        self.assertEqual(last(*self.EMPTY, fill(4, *row, (0, A), (1,), (3,)), period(4)), [0, 0, 1])
        for command in ((13, 0), (14, 0, 1), (15, 0)):
            self.assertEqual(last(*self.EMPTY, fill(4, *row, command), period(4)), [-8])
            self.assertEqual(last(*self.EMPTY, fill(4, command, *row), period(4)), [-8])

    def test_20000_playings_in_several(self):
        row = [(8,)] + [(13, 2)] * 6 + [(13, 1)] * 3 + [(13, 5)]
        setup = [*self.EMPTY, fill(5, *[(13, 0)] * 29), text(0, b"ab")]
        self.assertEqual(last(*setup, fill(4, *row), period(4)), [0, 0, 2])
        self.assertEqual(last(*setup, fill(4, *row, (13, 0)), period(4)), [-8])

    def test_another_playing_of_its_own_is_too_much(self):
        # Two are 20000 playings; a third one is needed to find that it fails.
        row = [(2,)] + [(13, 2)] * 6 + [(13, 1)] * 3 + [(13, 5)]
        setup = [*self.EMPTY, fill(5, *[(13, 0)] * 29), fill(4, *row)]
        self.assertEqual(last(*setup, text(1, b"ab"), period(4)), [1, 1])
        self.assertEqual(last(*setup, text(0, b"ab"), period(4)), [-8])
        self.assertEqual(last(*setup, fill(5, *[(13, 0)] * 28), text(0, b"ab"), period(4)), [1, 2])

    def test_a_playing_would_never_stop(self):
        self.assertEqual(last(text(0, b"ab"), fill(0, (15, 1)), fill(1, (8,)), period(0)), [-9])
        self.assertEqual(last(text(0, b"ab"), fill(0, (13, 2)), fill(2, (15, 1)), fill(1, (8,)), period(0)), [-9])

    def test_a_later_playing_would_never_stop(self):
        # At first what is here and behind it is alike, and exchanging leaves all as it was.
        self.assertEqual(last(text(0, b"aaab"), fill(0, (15, 1), (2,)), fill(1, (8,)), period(0)), [-9])
        self.assertEqual(last(text(0, b"aaab"), fill(0, (15, 1), (9, A), (4, A)), fill(1, (8,)), period(0)), [-9])

    def test_the_row_itself_coming_round_is_no_refusal(self):
        self.assertEqual(last(text(0, b"ab"), fill(1, (8,)), period(1)), [0, 0, 2])

    def test_it_fails_before_it_would_never_stop(self):
        self.assertEqual(last(text(0, b"ab"), fill(0, (1,), (15, 1)), fill(1, (8,)), period(0)), [1, 0])

    def test_too_much_or_never_stopping_comes_first(self):
        setup = [*self.PLAIN, fill(3, *self.TURN_ROW), text(0, b"ab")]
        self.assertEqual(last(*setup, fill(4, (15, 3)), period(4)), [-9])
        self.assertEqual(last(*setup, fill(4, STAY, (15, 3)), period(4)), [-8])


class NothingIsDone(unittest.TestCase):
    ROWS = [
        [],
        [(3,)],
        [(0, D)],
        [(11,), (8,)],
        [(3,), (3,), (3,), (3,)],
        [(15, 1), (2,)],
        [(14, 2, 600), (13, 2)],
        [(13, 0)],
    ]
    MACROS = [fill(1, (8,)), fill(2, *[STAY] * 40)]

    def test_the_editor_is_as_without_it(self):
        for row in self.ROWS:
            calls = [*self.MACROS, fill(0, *row), text(1, b"abc"), do((11,)), period(0), shows()]
            self.assertEqual(last(*calls), [3, 1, B + 1, A, B, C], row)

    def test_registers_are_as_without_it(self):
        for row in self.ROWS:
            calls = [*self.MACROS, fill(0, *row), text(1, b"abc")]
            gets = [get(slot) for slot in range(10)]
            self.assertEqual(ask(*calls, period(0), *gets)[-10:], ask(*calls, *gets)[-10:], row)

    def test_undo_is_as_without_it(self):
        for row in self.ROWS:
            calls = [*self.MACROS, fill(0, *row), text(1, b"abc"), do((0, D)), period(0), undo(), period(0), undo()]
            self.assertEqual(ask(*calls)[-3::2], [[3, 1, 0], [-7]], row)

    def test_a_recording_is_as_without_it(self):
        for row in self.ROWS:
            setup = [*self.MACROS, fill(0, *row), text(1, b"abc")]
            calls = [*setup, record(3, 0), do((2,)), period(0), stop(), get(3)]
            self.assertEqual(ask(*calls)[-2:], [[3, 1], [1, 2]], row)
            self.assertEqual(ask(*calls)[-3], last(*setup, do((2,)), period(0)), row)

    def test_nothing_is_counted_on_by_a_later_call(self):
        row = [(13, 1)] * 12 + [(13, 0)] * 20
        calls = [*Limits.PLAIN, fill(4, *row), period(4), period(4), do(*row), period(4)]
        self.assertEqual(ask(*calls)[4:], [[0, 0, 1], [0, 0, 1], [0, 20000, 0, 0, 0], [0, 0, 1]])
        row = [(13, 2)] * 12 + [(13, 1)] * 7 + [(13, 3)]
        calls = [*Limits.EMPTY, fill(4, *row), period(4), period(4), do(*row), period(4)]
        self.assertEqual(ask(*calls)[4:], [[0, 0, 1], [0, 0, 1], [0, 0, 0, 0, 0], [0, 0, 1]])

    def test_a_row_of_playings_is_begun_anew(self):
        calls = [*counter(1023 - 999), period(COUNT_OR_FAIL), do((13, COUNT_OR_FAIL)), period(COUNT_OR_FAIL)]
        self.assertEqual(ask(*calls)[-3::2], [[1, 999], [1, 998]])


if __name__ == "__main__":
    unittest.main()
