"""The plain commands 0 to 12: what each does, and where it fails and changes nothing."""

import unittest

from tests.helper import ask, do, last, text, text_after

FULL = bytes(range(60))
A, B, C, Z = b"abcz"


class PlainCommands(unittest.TestCase):
    def check(self, data, place, command, wanted, wanted_place, held=0, ahead=()):
        """The command is done, behind those ahead of it, and leaves the editor like this."""
        calls = [text(place, data), do(*ahead), do(command)]
        self.assertEqual(last(*calls), [0, 1, len(wanted), wanted_place, held])
        self.assertEqual(text_after(*calls), wanted)

    def check_fails(self, data, place, command, ahead=()):
        """The command fails, is counted, and changes nothing."""
        calls = [text(place, data), do(*ahead)]
        before = last(*calls)[2:]
        self.assertEqual(last(*calls, do(command)), [1, 1] + before)
        self.assertEqual(text_after(*calls, do(command)), text_after(*calls))

    def test_0_puts_in(self):
        self.check(b"", 0, (0, A), b"a", 1)
        self.check(b"bc", 0, (0, A), b"abc", 1)
        self.check(b"ac", 1, (0, B), b"abc", 2)
        self.check(b"ab", 2, (0, C), b"abc", 3)
        self.check(b"", 0, (0, 0), b"\x00", 1)
        self.check(b"", 0, (0, 255), b"\xff", 1)

    def test_0_at_the_most_bytes(self):
        self.check(FULL[:59], 59, (0, 59), FULL, 60)
        for place in (0, 30, 60):
            self.check_fails(FULL, place, (0, A))

    def test_1_to_the_left(self):
        self.check(b"ab", 2, (1,), b"ab", 1)
        self.check(b"ab", 1, (1,), b"ab", 0)
        self.check_fails(b"ab", 0, (1,))
        self.check_fails(b"", 0, (1,))

    def test_2_to_the_right(self):
        self.check(b"ab", 0, (2,), b"ab", 1)
        self.check(b"ab", 1, (2,), b"ab", 2)
        self.check_fails(b"ab", 2, (2,))
        self.check_fails(b"", 0, (2,))

    def test_3_takes_out(self):
        self.check(b"abc", 0, (3,), b"bc", 0)
        self.check(b"abc", 1, (3,), b"ac", 1)
        self.check(b"abc", 2, (3,), b"ab", 2)
        self.check_fails(b"abc", 3, (3,))
        self.check_fails(b"", 0, (3,))

    def test_4_to_the_first_behind_the_one_here(self):
        self.check(b"abcbc", 0, (4, B), b"abcbc", 1)
        self.check(b"abcbc", 1, (4, B), b"abcbc", 3)
        self.check(b"abcbc", 0, (4, C), b"abcbc", 2)
        self.check(b"abcbc", 2, (4, C), b"abcbc", 4)

    def test_4_fails(self):
        self.check_fails(b"abc", 0, (4, A))
        self.check_fails(b"abc", 2, (4, C))
        self.check_fails(b"abc", 2, (4, A))
        self.check_fails(b"abc", 3, (4, C))
        self.check_fails(b"abc", 0, (4, Z))
        self.check_fails(b"", 0, (4, A))

    def test_5_to_the_last_ahead_of_here(self):
        self.check(b"abab", 4, (5, A), b"abab", 2)
        self.check(b"abab", 4, (5, B), b"abab", 3)
        self.check(b"abab", 3, (5, B), b"abab", 1)
        self.check(b"abab", 2, (5, A), b"abab", 0)

    def test_5_fails(self):
        self.check_fails(b"abc", 0, (5, A))
        self.check_fails(b"abc", 2, (5, C))
        self.check_fails(b"abc", 1, (5, B))
        self.check_fails(b"abc", 3, (5, Z))
        self.check_fails(b"", 0, (5, A))

    def test_6_and_7_to_the_ends(self):
        for place in range(4):
            self.check(b"abc", place, (6,), b"abc", 0)
            self.check(b"abc", place, (7,), b"abc", 3)
        self.check(b"", 0, (6,), b"", 0)
        self.check(b"", 0, (7,), b"", 0)

    def test_8_exchanges(self):
        self.check(b"abc", 0, (8,), b"bac", 0)
        self.check(b"abc", 1, (8,), b"acb", 1)

    def test_8_fails_without_two(self):
        self.check_fails(b"abc", 2, (8,))
        self.check_fails(b"abc", 3, (8,))
        self.check_fails(b"a", 0, (8,))
        self.check_fails(b"", 0, (8,))

    def test_9_expects_the_byte_here(self):
        self.check(b"abc", 1, (9, B), b"abc", 1)
        self.check_fails(b"abc", 1, (9, A))
        self.check_fails(b"abc", 1, (9, C))
        self.check_fails(b"abc", 3, (9, C))
        self.check_fails(b"", 0, (9, 0))

    def test_10_expects_another_byte_or_none(self):
        self.check(b"abc", 1, (10, A), b"abc", 1)
        self.check(b"abc", 3, (10, C), b"abc", 3)
        self.check(b"", 0, (10, 0), b"", 0)
        self.check_fails(b"abc", 1, (10, B))

    def test_11_holds(self):
        self.check(b"abc", 1, (11,), b"abc", 1, held=B + 1)
        self.check(b"\x00", 0, (11,), b"\x00", 0, held=1)
        self.check(b"\xff", 0, (11,), b"\xff", 0, held=256)

    def test_11_holds_instead_of_another_one(self):
        self.check(b"abc", 0, (11,), b"abc", 1, held=B + 1, ahead=[(11,), (2,)])

    def test_11_fails_with_no_byte_here(self):
        self.check_fails(b"", 0, (11,))
        self.check_fails(b"ab", 0, (11,), ahead=[(11,), (7,)])

    def test_12_puts_the_held_byte_in(self):
        self.check(b"abc", 0, (12,), b"aabc", 1, held=A + 1, ahead=[(11,)])
        self.check(b"abc", 0, (12,), b"abac", 3, held=A + 1, ahead=[(11,), (2,), (2,)])
        self.check(b"\x00", 0, (12,), b"\x00\x00", 1, held=1, ahead=[(11,)])

    def test_12_may_be_done_again(self):
        calls = [text(0, b"ab"), do((11,), (3,), (12,), (12,), (12,))]
        self.assertEqual(last(*calls), [0, 5, 4, 3, A + 1])
        self.assertEqual(text_after(*calls), b"aaab")

    def test_12_fails(self):
        self.check_fails(b"abc", 1, (12,))
        self.check_fails(FULL, 7, (12,), ahead=[(11,)])
        self.check(FULL[:59], 0, (12,), b"\x00" + FULL[:59], 1, held=1, ahead=[(11,)])


class RowsOfPlainCommands(unittest.TestCase):
    def test_none_at_all(self):
        self.assertEqual(ask(do()), [[0, 0, 0, 0, 0]])

    def test_a_new_editor_is_empty(self):
        self.assertEqual(ask(do((2,))), [[1, 1, 0, 0, 0]])
        self.assertEqual(ask(do((12,))), [[1, 1, 0, 0, 0]])

    def test_one_after_another_from_where_one_is(self):
        calls = [do((0, A), (0, B)), do((0, C), (6,), (8,))]
        self.assertEqual(ask(*calls), [[0, 2, 2, 2, 0], [0, 3, 3, 0, 0]])
        self.assertEqual(text_after(*calls), b"bac")

    def test_a_row_that_fails_in_its_midst(self):
        calls = [text(0, b"ab"), do((11,), (0, C), (9, Z), (3,), (6,))]
        self.assertEqual(last(*calls), [1, 3, 3, 1, A + 1])
        self.assertEqual(text_after(*calls), b"cab")

    def test_a_row_that_fails_at_its_beginning_and_at_its_end(self):
        self.assertEqual(last(text(0, b"ab"), do((1,), (3,))), [1, 1, 2, 0, 0])
        self.assertEqual(last(text(0, b"ab"), do((3,), (3,), (3,))), [1, 3, 0, 0, 0])


if __name__ == "__main__":
    unittest.main()
