"""Doing a row of commands, or a row of playings, with all that the registers play."""

from macroplays.plain import do_plain
from macroplays.refusals import NeverStops, TooMuch

PLAY_ONCE = 13
PLAY_TIMES = 14

MOST_DEEP = 6
MOST_IN_A_ROW = 1000
MOST_PLAIN = 20000
MOST_PLAYINGS = 20000


class Player:
    """Does the commands of one call on an editor, and counts what they take.

    Each way of doing answers whether it was done to its end (False: it failed).
    depth is how many playings the commands stand in.
    """

    def __init__(self, editor, macros):
        self.editor = editor
        self.macros = macros
        self.plain_count = 0
        self.playing_count = 0

    def do_row(self, commands, depth):
        for command in commands:
            if not self.do_command(command, depth):
                return False
        return True

    def do_command(self, command, depth):
        if command[0] < PLAY_ONCE:
            return self.do_counted(command)
        if command[0] == PLAY_ONCE:
            return self.play(command[1], depth)
        if command[0] == PLAY_TIMES:
            return self.play_times(command[1], command[2], depth)
        return self.play_until(command[1], depth)

    def do_counted(self, command):
        if self.plain_count == MOST_PLAIN:
            raise TooMuch()
        self.plain_count += 1
        return do_plain(self.editor, command)

    def play(self, slot, depth):
        # The depth is asked first: a playing beyond it fails, and is neither counted nor too much.
        if depth == MOST_DEEP:
            return False
        if self.playing_count == MOST_PLAYINGS:
            raise TooMuch()
        self.playing_count += 1
        return self.do_row(self.macros[slot], depth + 1)

    def play_next(self, slot, depth, seen):
        """One more playing of a row of playings; seen has the states so far, the beginning's too."""
        if len(seen) > MOST_IN_A_ROW:
            raise TooMuch()
        return self.play(slot, depth)

    def play_times(self, slot, times, depth):
        seen = {self.editor.state(): 0}
        while len(seen) <= times:
            if not self.play_next(slot, depth, seen):
                return False
            state = self.editor.state()
            if state in seen:
                self.editor.restore(state_behind(times, seen, seen[state]))
                return True
            seen[state] = len(seen)
        return True

    def play_until(self, slot, depth):
        before = self.editor.state()
        seen = {before: True}
        while self.play_next(slot, depth, seen):
            state = self.editor.state()
            if state == before:
                return True
            if state in seen:
                raise NeverStops()
            seen[state] = True
            before = state
        return True

    def find_period(self, slot):
        """Plays again and again till one fails (1, how many were done), or it comes round (0, where, how soon)."""
        seen = {self.editor.state(): 0}
        while self.play_next(slot, 0, seen):
            state = self.editor.state()
            if state in seen:
                return [0, seen[state], len(seen) - seen[state]]
            seen[state] = len(seen)
        return [1, len(seen) - 1]


def state_behind(times, seen, first):
    """The state behind so many playings, where behind the last one of seen comes the one numbered first again."""
    period = len(seen) - first
    # A dict keeps the order in which its keys came: that of the playings.
    return list(seen)[first + (times - first) % period]
