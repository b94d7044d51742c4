"""What is too much, what would never stop, and which of them comes first."""

import unittest

from tests.helper import (COUNT_OR_FAIL, COUNT_OR_STAY, COUNT_ROUND, MOST, TURN, ask, bits, counter, do, fill, last,
                          text, text_after)

A, B = b"ab"


class ARowOfPlayings(unittest.TestCase):
    def check_refused(self, calls, number):
        """The last call is refused and leaves the editor as it was."""
        self.assertEqual(last(*calls), [number])
        self.assertEqual(last(*calls, do()), last(*calls[:-1], do()))
        self.assertEqual(text_after(*calls), text_after(*calls[:-1]))

    def test_14_a_thousand_times(self):
        calls = counter(0) + [do((14, COUNT_OR_FAIL, 1000))]
        self.assertEqual(last(*calls)[0], 0)
        self.assertEqual(text_after(*calls), bits(1000, 10))

    def test_14_once_more_is_too_much(self):
        self.check_refused(counter(0) + [do((14, COUNT_OR_FAIL, 1001))], -8)

    def test_14_as_often_as_can_be_told_is_too_much_where_it_never_comes_round(self):
        self.check_refused(counter(0) + [do((7,), (0, A), (14, COUNT_OR_FAIL, MOST))], -8)

    def test_14_the_thousandth_fails(self):
        for times in (1000, 1001, MOST):
            calls = counter(1023 - 999) + [do((14, COUNT_OR_FAIL, times))]
            self.assertEqual(last(*calls)[0], 1)
            self.assertEqual(text_after(*calls), bits(0, 10))

    def test_14_the_next_one_would_fail(self):
        self.assertEqual(last(*counter(1023 - 1000), do((14, COUNT_OR_FAIL, 1000)))[0], 0)
        self.check_refused(counter(1023 - 1000) + [do((14, COUNT_OR_FAIL, 1001))], -8)

    def test_14_comes_round_behind_the_thousandth(self):
        # 488 playings till the mark is y, and 512 round the bits.
        setup = counter(512 - 488, 9, behind=b"x")
        plainly = last(*setup, do((14, COUNT_ROUND, 1000)))
        for times in (1000, 1001, 1511, 1512, MOST):
            with self.subTest(times=times):
                calls = setup + [do((14, COUNT_ROUND, times))]
                self.assertEqual(last(*calls), plainly)
                self.assertEqual(text_after(*calls), bits((times - 488) % 512, 9) + b"y")

    def test_14_would_come_round_behind_the_next_one(self):
        setup = counter(512 - 489, 9, behind=b"x")
        self.assertEqual(last(*setup, do((14, COUNT_ROUND, 1000)))[0], 0)
        self.check_refused(setup + [do((14, COUNT_ROUND, 1001))], -8)
        self.check_refused(setup + [do((14, COUNT_ROUND, MOST))], -8)

    def test_15_the_thousandth_fails(self):
        calls = counter(1023 - 999) + [do((15, COUNT_OR_FAIL))]
        self.assertEqual(last(*calls)[0::2], [0, 10, 0])
        self.assertEqual(last(*calls)[3], 10)
        self.assertEqual(text_after(*calls), bits(0, 10))

    def test_15_the_next_one_would_fail(self):
        self.check_refused(counter(1023 - 1000) + [do((15, COUNT_OR_FAIL))], -8)

    def test_15_the_thousandth_leaves_all_as_it_was(self):
        calls = counter(1023 - 999, ahead=b"p") + [do((15, COUNT_OR_STAY))]
        self.assertEqual(last(*calls)[0], 0)
        self.assertEqual(text_after(*calls), b"p" + bits(1023, 10))

    def test_15_the_next_one_would_leave_all_as_it_was(self):
        self.check_refused(counter(1023 - 1000, ahead=b"p") + [do((15, COUNT_OR_STAY))], -8)

    def test_15_would_never_stop_as_the_thousandth_shows(self):
        self.check_refused(counter(512 - 488, 9, behind=b"x") + [do((15, COUNT_ROUND))], -9)

    def test_15_would_never_stop_as_the_next_one_would_show(self):
        self.check_refused(counter(512 - 489, 9, behind=b"x") + [do((15, COUNT_ROUND))], -8)

    def test_each_row_of_playings_has_its_own_thousand(self):
        calls = counter(0) + [do((14, COUNT_OR_FAIL, 600), (14, COUNT_OR_FAIL, 400), (14, COUNT_OR_FAIL, 20))]
        self.assertEqual(last(*calls)[0], 0)
        self.assertEqual(text_after(*calls), bits(1020, 10))

    def test_what_comes_first(self):
        setup = counter(0)
        never, much = (15, TURN), (14, COUNT_OR_FAIL, 1001)
        ahead = [(7,), (0, A), (0, B), (1,), (1,)]
        self.assertEqual(last(*setup, do(*ahead, never)), [-9])
        self.assertEqual(last(*setup, do(*ahead, never, much)), [-9])
        self.assertEqual(last(*setup, do(*ahead, much, never)), [-8])
        self.assertEqual(last(*setup, do(*ahead, much)), [-8])


class AllOfOneCall(unittest.TestCase):
    # Register 0 does 40 plain commands, register 1 does 1600.
    PLAIN = [fill(0, *[(6,)] * 40), fill(1, *[(13, 0)] * 40)]

    # Register 0 does nothing: 1 playing. Register 1 is 41 playings, register 2 is 1641.
    EMPTY = [fill(1, *[(13, 0)] * 40), fill(2, *[(13, 1)] * 40)]

    def test_20000_plain_commands(self):
        row = [(13, 1)] * 12 + [(13, 0)] * 20
        self.assertEqual(last(*self.PLAIN, do(*row)), [0, 20000, 0, 0, 0])

    def test_20000_plain_commands_and_what_is_none(self):
        row = [(13, 1)] * 12 + [(13, 0)] * 20 + [(13, 9), (14, 9, 5), (15, 9), (14, 0, 0)]
        self.assertEqual(last(*self.PLAIN, do(*row)), [0, 20000, 0, 0, 0])

    def test_one_plain_command_more(self):
        row = [(0, A)] + [(13, 1)] * 12 + [(13, 0)] * 20
        self.assertEqual(ask(*self.PLAIN, do(*row), do())[-2:], [[-8], [0, 0, 0, 0, 0]])
        self.assertEqual(last(*self.PLAIN, do(*row[1:], (6,))), [-8])
        self.assertEqual(last(*self.PLAIN, fill(2, (6,)), do(*row[1:], (15, 2))), [-8])

    def test_a_plain_command_that_fails_counts(self):
        ahead = [(13, 1)] * 12 + [(13, 0)] * 19
        setup = self.PLAIN + [fill(2, *[(6,)] * 38), fill(3, (1,))]
        self.assertEqual(last(*setup, do(*ahead, (13, 2), (6,), (3,))), [1, 20000, 0, 0, 0])
        self.assertEqual(last(*setup, do(*ahead, (13, 2), (6,), (15, 3))), [0, 20000, 0, 0, 0])
        self.assertEqual(last(*setup, do(*ahead, (13, 2), (15, 3), (15, 3))), [0, 20000, 0, 0, 0])
        self.assertEqual(last(*setup, do(*ahead, (13, 2), (15, 3), (15, 3), (15, 3))), [-8])
        self.assertEqual(last(*setup, do(*ahead, (13, 2), (6,), (6,), (3,))), [-8])

    def test_each_call_has_its_own_20000_plain_commands(self):
        row = do(*[(13, 1)] * 12, *[(13, 0)] * 20)
        self.assertEqual(ask(*self.PLAIN, row, row)[2:], [[0, 20000, 0, 0, 0]] * 2)

    def test_what_coming_round_spares_is_not_counted(self):
        row = [(14, 1, MOST)] * 12 + [(13, 0)] * 20
        self.assertEqual(last(*self.PLAIN, do(*row)), [0, 20000, 0, 0, 0])

    def test_20000_playings(self):
        setup = self.EMPTY + [fill(3, *[(13, 0)] * 20)]
        row = [(13, 2)] * 12 + [(13, 1)] * 7 + [(13, 3)]
        self.assertEqual(last(*setup, do(*row)), [0, 0, 0, 0, 0])
        self.assertEqual(last(*setup, do(*row, (0, A))), [0, 1, 1, 1, 0])
        self.assertEqual(last(*setup, do(*row, (14, 0, 0))), [0, 0, 0, 0, 0])

    def test_one_playing_more(self):
        setup = self.EMPTY + [fill(3, *[(13, 0)] * 20)]
        row = [(0, A)] + [(13, 2)] * 12 + [(13, 1)] * 7 + [(13, 3)]
        for command in ((13, 0), (14, 0, 1), (15, 0)):
            self.assertEqual(ask(*setup, do(*row, command), do())[-2:], [[-8], [0, 0, 0, 0, 0]])

    def test_14_and_15_begin_playings_too(self):
        row = [(13, 2)] * 12 + [(13, 1)] * 7
        for command in ((14, 0, 1), (14, 0, MOST), (15, 0)):
            setup = self.EMPTY + [fill(3, *[command] * 20)]
            self.assertEqual(last(*setup, do(*row, (13, 3))), [0, 0, 0, 0, 0])
            self.assertEqual(last(*setup, do(*row, (13, 3), (13, 0))), [-8])

    def test_each_time_counts_as_a_playing(self):
        # Register 4 goes to the right: 20 times are 20 playings.
        setup = self.EMPTY + [fill(4, (2,)), text(0, b"a" * 60)]
        row = [(13, 2)] * 12 + [(13, 1)] * 7
        self.assertEqual(last(*setup, do(*row, (14, 4, 21))), [0, 21, 60, 21, 0])
        self.assertEqual(last(*setup, do(*row, (14, 4, 22))), [-8])

    def test_a_playing_that_fails_counts(self):
        setup = self.EMPTY + [fill(3, *[(15, 4)] * 20), fill(4, (3,))]
        row = [(13, 2)] * 12 + [(13, 1)] * 7
        self.assertEqual(last(*setup, do(*row, (13, 3))), [0, 20, 0, 0, 0])
        self.assertEqual(last(*setup, do(*row, (13, 3), (13, 4))), [-8])

    def test_each_call_has_its_own_20000_playings(self):
        row = do(*[(13, 2)] * 12, *[(13, 1)] * 7)
        self.assertEqual(ask(*self.EMPTY, row, row)[2:], [[0, 0, 0, 0, 0]] * 2)

    def test_a_playing_beyond_the_depth_does_not_count(self):
        # Register 5 plays itself: 6 playings, and a seventh that fails.
        row = [(13, 2)] * 12 + [(13, 1)] * 7
        setup = self.EMPTY + [fill(5, (13, 5))]
        exactly = setup + [fill(3, *[(13, 0)] * 14)]
        self.assertEqual(last(*exactly, do(*row, (13, 3), (13, 5))), [1, 0, 0, 0, 0])
        one_more = setup + [fill(3, *[(13, 0)] * 15)]
        self.assertEqual(last(*one_more, do(*row, (13, 3), (13, 5))), [-8])

    def test_15_beyond_the_depth_is_not_too_much_either(self):
        row = [(13, 2)] * 12 + [(13, 1)] * 7 + [(13, 3)]
        chain = [fill(slot, (13, slot + 1)) for slot in range(4, 9)]
        setup = self.EMPTY + [fill(3, *[(13, 0)] * 14)] + chain
        self.assertEqual(last(*setup, fill(9, (15, 0), (0, A)), do(*row, (13, 4))), [0, 1, 1, 1, 0])
        self.assertEqual(last(*setup, fill(9, (0, A), (14, 0, 1)), do(*row, (13, 4))), [1, 1, 1, 1, 0])

    def test_too_much_or_never_stopping_comes_first(self):
        # Register 3 does 10000 plain commands, one of which exchanges: its second playing shows that it goes round.
        turn = fill(3, (8,), *[(13, 1)] * 6, *[(13, 0)] * 9, (13, 2))
        setup = self.PLAIN + [fill(2, *[(6,)] * 39), turn, text(0, b"ab")]
        self.assertEqual(ask(*setup, do((15, 3)), do())[-2:], [[-9], [0, 0, 2, 0, 0]])
        self.assertEqual(ask(*setup, do((6,), (15, 3)), do())[-2:], [[-8], [0, 0, 2, 0, 0]])

    def test_a_row_that_fails_before_it_is_too_much(self):
        row = [(13, 1)] * 12 + [(13, 0)] * 19
        setup = self.PLAIN + [fill(2, *[(6,)] * 38)]
        self.assertEqual(last(*setup, do(*row, (13, 2), (1,), (6,), (6,))), [1, 19999, 0, 0, 0])


if __name__ == "__main__":
    unittest.main()
