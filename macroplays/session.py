"""One editor with its registers, what is recorded and what can be undone, and the calls on it."""

from macroplays.plain import MOST_BYTES, Editor
from macroplays.player import Player
from macroplays.reading import LAST_BYTE, LAST_SLOT, MOST_COMMANDS, read_commands
from macroplays.refusals import NoSuchRegister, OutOfTurn, RecordFull, WrongNumbers


class Session:
    """Each call gives back the list of numbers that is answered, or raises a refusal and changes nothing.

    macros has each register's commands; recorded_for is the register that is recorded for, or None;
    earlier has the editor as it was ahead of each do that isn't undone.
    Editors and lists of commands are replaced, never changed, so that several names may share one.
    """

    def __init__(self):
        self.editor = Editor((), 0, 0)
        self.macros = [[] for slot in range(LAST_SLOT + 1)]
        self.recorded_for = None
        self.recorded = []
        self.earlier = []

    def start_text(self, place, numbers):
        if len(numbers) > MOST_BYTES or place > len(numbers):
            raise WrongNumbers()
        if any([number > LAST_BYTE for number in numbers]):
            raise WrongNumbers()
        self.editor = Editor(tuple(numbers), place, 0)
        self.earlier = []
        return [len(numbers)]

    def new_player(self):
        # On a twin: what is played for nothing, or refused in its midst, leaves the editor as it was.
        return Player(self.editor.twin(), self.macros)

    def do(self, numbers):
        commands = read_commands(numbers)
        player = self.new_player()
        answer = try_out(player, commands)
        # The last that may refuse, so that nothing is changed before it.
        self.put_to_record(commands)
        self.earlier.append(self.editor)
        self.editor = player.editor
        return answer

    def would(self, numbers):
        return try_out(self.new_player(), read_commands(numbers))

    def put_to_record(self, commands):
        if self.recorded_for is None:
            return
        if len(self.recorded) + len(commands) > MOST_COMMANDS:
            raise RecordFull()
        self.recorded = self.recorded + commands

    def fill(self, slot, numbers):
        check_slot(slot)
        self.macros[slot] = read_commands(numbers)
        return [len(self.macros[slot])]

    def look_up(self, slot):
        check_slot(slot)
        answer = [len(self.macros[slot])]
        for command in self.macros[slot]:
            answer.extend(command)
        return answer

    def record(self, slot, more):
        check_slot(slot)
        if self.recorded_for is not None:
            raise OutOfTurn()
        self.recorded_for = slot
        self.recorded = self.macros[slot] if more == 1 else []
        return [len(self.recorded)]

    def stop_recording(self):
        slot = self.recorded_for
        if slot is None:
            raise OutOfTurn()
        self.macros[slot] = self.recorded
        self.recorded_for = None
        return [slot, len(self.recorded)]

    def shows(self):
        return self.editor.told() + list(self.editor.text)

    def undo(self):
        if len(self.earlier) == 0:
            raise OutOfTurn()
        self.editor = self.earlier.pop()
        return self.editor.told()

    def period(self, slot):
        check_slot(slot)
        player = self.new_player()
        return player.find_period(slot)


def try_out(player, commands):
    """Does the commands on the player's editor; gives back what do answers of them."""
    done = player.do_row(commands, 0)
    return [0 if done else 1, player.plain_count] + player.editor.told()


def check_slot(slot):
    if slot > LAST_SLOT:
        raise NoSuchRegister()
