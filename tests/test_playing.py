"""The commands that play, 13 to 15, and how deep they may stand within one another."""

import random
import unittest

from tests.helper import MOST, ask, do, fill, last, text, text_after

A, B, C, X, Z = b"abcxz"


class PlayOnce(unittest.TestCase):
    def test_13_does_the_commands_in_order(self):
        calls = [fill(3, (0, A), (0, B), (1,)), do((13, 3), (13, 3))]
        self.assertEqual(last(*calls), [0, 6, 4, 2, 0])
        self.assertEqual(text_after(*calls), b"aabb")

    def test_13_of_a_row_without_commands(self):
        self.assertEqual(last(text(1, b"ab"), do((13, 0), (13, 9))), [0, 0, 2, 1, 0])

    def test_13_fails_with_its_row(self):
        calls = [fill(0, (0, A), (9, Z), (0, B)), do((13, 0), (0, C))]
        self.assertEqual(last(*calls), [1, 2, 1, 1, 0])
        self.assertEqual(text_after(*calls), b"a")

    def test_13_fails_through_several_registers(self):
        calls = [
            fill(0, (0, A), (3,), (0, B)),
            fill(1, (0, C), (13, 0), (0, C)),
            fill(2, (13, 1), (0, C)),
            do((13, 2), (0, C)),
        ]
        self.assertEqual(last(*calls), [1, 3, 2, 2, 0])
        self.assertEqual(text_after(*calls), b"ca")


class PlayTimes(unittest.TestCase):
    def test_14_plays_so_many_times(self):
        calls = [fill(0, (0, A), (0, B)), do((14, 0, 3))]
        self.assertEqual(last(*calls), [0, 6, 6, 6, 0])
        self.assertEqual(text_after(*calls), b"ababab")

    def test_14_once(self):
        self.assertEqual(last(fill(0, (0, A)), do((14, 0, 1))), [0, 1, 1, 1, 0])

    def test_14_no_times_does_nothing_and_does_not_fail(self):
        self.assertEqual(last(fill(0, (3,)), do((14, 0, 0), (0, A))), [0, 1, 1, 1, 0])

    def test_14_fails_if_one_playing_fails(self):
        calls = [text(0, b"aab"), fill(0, (9, A), (2,)), do((14, 0, 3), (0, Z))]
        self.assertEqual(last(*calls), [1, 5, 3, 2, 0])

    def test_14_keeps_what_the_failing_playing_did(self):
        calls = [text(0, b"aab"), fill(0, (0, X), (9, A), (2,)), do((14, 0, MOST), (0, Z))]
        self.assertEqual(last(*calls), [1, 8, 6, 5, 0])
        self.assertEqual(text_after(*calls), b"xaxaxb")

    def test_14_up_to_the_failing_playing(self):
        setup = [text(0, b"aab"), fill(0, (9, A), (2,))]
        self.assertEqual(last(*setup, do((14, 0, 2), (0, Z))), [0, 5, 4, 3, 0])

    def test_14_comes_round_and_counts_no_more(self):
        setup = [text(0, b"ab"), fill(0, (8,))]
        for times, counted, wanted in ((1, 1, b"ba"), (2, 2, b"ab"), (3, 2, b"ba"), (4, 2, b"ab"),
                                       (MOST - 1, 2, b"ab"), (MOST, 2, b"ba")):
            with self.subTest(times=times):
                calls = setup + [do((14, 0, times))]
                self.assertEqual(last(*calls), [0, counted, 2, 0, 0])
                self.assertEqual(text_after(*calls), wanted)

    def test_14_comes_round_behind_a_beginning_of_its_own(self):
        # The first byte goes behind the others. Nothing is held at the beginning only, so that isn't come back to.
        setup = [text(0, b"abc"), fill(0, (6,), (11,), (3,), (7,), (12,), (6,))]
        for times, counted, wanted, held in ((1, 6, b"bca", A), (2, 12, b"cab", B), (3, 18, b"abc", C),
                                             (4, 24, b"bca", A), (5, 24, b"cab", B), (6, 24, b"abc", C),
                                             (MOST - 2, 24, b"bca", A), (MOST - 1, 24, b"cab", B),
                                             (MOST, 24, b"abc", C)):
            with self.subTest(times=times):
                calls = setup + [do((14, 0, times))]
                self.assertEqual(last(*calls), [0, counted, 3, 0, held + 1])
                self.assertEqual(text_after(*calls), wanted)

    def test_14_with_nothing_to_play_comes_round_at_once(self):
        self.assertEqual(last(do((14, 0, MOST))), [0, 0, 0, 0, 0])

    def test_14_held_and_place_count_for_coming_round(self):
        # Only what is held differs behind the first playing, only the place behind the others.
        self.assertEqual(last(text(0, b"a"), fill(0, (11,)), do((14, 0, MOST))), [0, 2, 1, 0, A + 1])
        self.assertEqual(last(text(0, b"aaa"), fill(0, (2,)), do((14, 0, 3))), [0, 3, 3, 3, 0])
        self.assertEqual(last(text(0, b"aaa"), fill(0, (2,)), do((14, 0, 4))), [1, 4, 3, 3, 0])

    def test_14_comes_round_to_another_place(self):
        # Both bytes change sides, and the place goes with the byte a.
        setup = [text(0, b"ab"), fill(0, (6,), (8,), (7,), (5, A))]
        self.assertEqual(last(*setup, do((14, 0, MOST))), [0, 8, 2, 1, 0])
        self.assertEqual(last(*setup, do((14, 0, MOST - 1))), [0, 8, 2, 0, 0])

    def test_14_is_one_time_after_another(self):
        dice = random.Random(7)
        for turn in range(300):
            data = bytes(dice.choice(b"ab") for step in range(dice.randrange(8)))
            setup = [text(dice.randrange(len(data) + 1), data), fill(0, *random_plain(dice))]
            times = dice.randrange(41)
            at_once = setup + [do((14, 0, times))]
            one_by_one = setup + [do(*[(13, 0)] * times)]
            first, second = last(*at_once), last(*one_by_one)
            self.assertEqual([first[0]] + first[2:], [second[0]] + second[2:], at_once)
            self.assertLessEqual(first[1], second[1])
            self.assertEqual(text_after(*at_once), text_after(*one_by_one), at_once)


def random_plain(dice):
    bare = [(1,), (2,), (3,), (6,), (7,), (8,), (11,), (12,)]
    with_byte = [(number, byte) for number in (0, 4, 5, 9, 10) for byte in b"ab"]
    return [dice.choice(bare + with_byte) for step in range(dice.randrange(5))]


class PlayUntil(unittest.TestCase):
    def test_15_until_a_playing_fails(self):
        calls = [text(0, b"aab"), fill(0, (9, A), (2,)), do((15, 0), (0, Z))]
        self.assertEqual(last(*calls), [0, 6, 4, 3, 0])
        self.assertEqual(text_after(*calls), b"aazb")

    def test_15_keeps_what_the_failing_playing_did(self):
        calls = [text(0, b"aab"), fill(0, (0, X), (9, A), (2,)), do((15, 0), (0, Z))]
        self.assertEqual(last(*calls), [0, 9, 7, 6, 0])
        self.assertEqual(text_after(*calls), b"xaxaxzb")

    def test_15_the_first_playing_fails(self):
        self.assertEqual(last(fill(0, (3,)), do((15, 0), (0, A))), [0, 2, 1, 1, 0])

    def test_15_ends_when_a_playing_leaves_all_as_it_was(self):
        self.assertEqual(last(text(2, b"ab"), fill(0, (6,)), do((15, 0), (0, Z))), [0, 3, 3, 1, 0])
        self.assertEqual(last(text(0, b"ab"), fill(0, (6,)), do((15, 0), (0, Z))), [0, 2, 3, 1, 0])

    def test_15_of_a_row_without_commands(self):
        self.assertEqual(last(text(1, b"ab"), do((15, 4), (2,))), [0, 1, 2, 2, 0])

    def test_15_something_held_is_not_as_it_was(self):
        self.assertEqual(last(text(0, b"ab"), fill(0, (11,)), do((15, 0))), [0, 2, 2, 0, A + 1])

    def test_15_would_never_stop(self):
        setup = [text(0, b"ab"), fill(0, (8,)), do((11,))]
        self.assertEqual(last(*setup, do((2,), (15, 0), (0, Z))), [0, 3, 3, 2, A + 1])
        calls = setup + [do((0, Z), (15, 0))]
        self.assertEqual(last(*calls), [-9])
        self.assertEqual(last(*calls, do()), [0, 0, 2, 0, A + 1])
        self.assertEqual(text_after(*calls), b"ab")

    def test_15_would_never_stop_behind_a_beginning_of_its_own(self):
        setup = [text(2, b"ab"), fill(0, (6,), (8,))]
        self.assertEqual(last(*setup, do((15, 0))), [-9])

    def test_15_within_a_playing_would_never_stop(self):
        setup = [text(0, b"ab"), fill(0, (8,)), fill(1, (0, Z), (15, 0))]
        for command in ((13, 1), (14, 1, 2), (15, 1)):
            self.assertEqual(ask(*setup, do(command), do())[-2:], [[-9], [0, 0, 2, 0, 0]])

    def test_15_a_row_that_fails_before_it_would_never_stop(self):
        setup = [text(0, b"ab"), fill(0, (8,))]
        self.assertEqual(last(*setup, do((1,), (15, 0))), [1, 1, 2, 0, 0])

    def test_15_of_one_that_plays_another_until_it_fails(self):
        setup = [text(0, b"aabaab"), fill(0, (9, A), (3,)), fill(1, (15, 0), (9, B), (2,))]
        calls = setup + [do((15, 1))]
        self.assertEqual(last(*calls), [0, 5 + 2 + 5 + 2 + 1 + 1, 2, 2, 0])
        self.assertEqual(text_after(*calls), b"bb")


class Depth(unittest.TestCase):
    def chain(self, length, play=lambda slot: (13, slot)):
        """Registers 0 to length - 1, each of which puts in a byte and plays the next one."""
        inner = [fill(slot, (0, A), play(slot + 1)) for slot in range(length - 1)]
        return inner + [fill(length - 1, (0, A))]

    def test_6_deep(self):
        self.assertEqual(last(*self.chain(6), do((13, 0), (0, Z))), [0, 7, 7, 7, 0])

    def test_7_deep_fails(self):
        self.assertEqual(last(*self.chain(7), do((13, 0), (0, Z))), [1, 6, 6, 6, 0])

    def test_14_counts_as_deep(self):
        play = lambda slot: (14, slot, 1)
        self.assertEqual(last(*self.chain(6, play), do((14, 0, 1), (0, Z))), [0, 7, 7, 7, 0])
        self.assertEqual(last(*self.chain(7, play), do((14, 0, 1), (0, Z))), [1, 6, 6, 6, 0])

    def test_15_counts_as_deep_but_does_not_fail(self):
        # Each 13 of the chain but the last is as deep as it is; the seventh is what 15 tries and gives up.
        setup = [fill(slot, (0, A), (13, slot + 1)) for slot in range(5)]
        setup += [fill(5, (0, A), (15, 6), (0, B)), fill(6, (0, C), (3,))]
        calls = setup + [do((13, 0), (0, Z))]
        self.assertEqual(last(*calls), [0, 8, 8, 8, 0])
        self.assertEqual(text_after(*calls), b"aaaaaabz")

    def test_14_no_times_beyond_the_depth_does_not_fail(self):
        setup = [fill(slot, (0, A), (13, slot + 1)) for slot in range(5)]
        self.assertEqual(last(*setup, fill(5, (14, 6, 0), (0, B)), do((13, 0))), [0, 6, 6, 6, 0])
        self.assertEqual(last(*setup, fill(5, (14, 6, 1), (0, B)), do((13, 0))), [1, 5, 5, 5, 0])

    def test_one_after_another_is_not_deeper(self):
        setup = self.chain(6)
        self.assertEqual(last(*setup, do((13, 0), (13, 0), (14, 0, 2))), [0, 24, 24, 24, 0])

    def test_a_register_that_plays_itself(self):
        self.assertEqual(last(fill(0, (0, A), (13, 0)), do((13, 0), (0, Z))), [1, 6, 6, 6, 0])
        self.assertEqual(last(fill(0, (13, 0)), do((13, 0))), [1, 0, 0, 0, 0])
        self.assertEqual(last(fill(0, (0, A), (14, 0, 1)), do((13, 0))), [1, 6, 6, 6, 0])

    def test_a_register_that_plays_itself_until_it_fails(self):
        # Three go to the left, one within another; the one within the third fails, and so does
        # another try of each of the two that 15 played and that changed something.
        setup = [text(3, b"abc"), fill(0, (1,), (15, 0))]
        self.assertEqual(last(*setup, do((13, 0))), [0, 3 + 1 + 2, 3, 0, 0])


if __name__ == "__main__":
    unittest.main()
