"""One editor with its registers and what is recorded, and the calls on it."""

from macroplays.plain import MOST_BYTES, Editor
from macroplays.player import Player
from macroplays.reading import LAST_BYTE, LAST_SLOT, MOST_COMMANDS, read_commands
from macroplays.refusals import NoSuchRegister, OutOfTurn, RecordFull, WrongNumbers


class Session:
    """Each call gives back the list of numbers that is answered, or raises a refusal and changes nothing.

    macros has each register's commands; recorded_for is the register that is recorded for, or None.
    The lists of commands are replaced, never changed, so that several names may share one.
    """

    def __init__(self):
        self.editor = Editor((), 0, 0)
        self.macros = [[] for slot in range(LAST_SLOT + 1)]
        self.recorded_for = None
        self.recorded = []

    def start_text(self, place, numbers):
        if len(numbers) > MOST_BYTES or place > len(numbers):
            raise WrongNumbers()
        if any([number > LAST_BYTE for number in numbers]):
            raise WrongNumbers()
        self.editor = Editor(tuple(numbers), place, 0)
        return [len(numbers)]

    def do(self, numbers):
        commands = read_commands(numbers)
        # Done on a twin: a refusal, even the last one, leaves the editor as it was.
        player = Player(self.editor.twin(), self.macros)
        done = player.do_row(commands, 0)
        self.put_to_record(commands)
        self.editor = player.editor
        return [0 if done else 1, player.plain_count] + self.editor.told()

    def put_to_record(self, commands):
        if self.recorded_for is None:
            return
        if len(self.recorded) + len(commands) > MOST_COMMANDS:
            raise RecordFull()
        self.recorded = self.recorded + commands

    def fill(self, slot, numbers):
        check_slot(slot)
        self.macros[slot] = read_commands(numbers)
        return [len(self.macros[slot])]

    def look_up(self, slot):
        check_slot(slot)
        answer = [len(self.macros[slot])]
        for command in self.macros[slot]:
            answer.extend(command)
        return answer

    def record(self, slot, more):
        check_slot(slot)
        if self.recorded_for is not None:
            raise OutOfTurn()
        self.recorded_for = slot
        self.recorded = self.macros[slot] if more == 1 else []
        return [len(self.recorded)]


def check_slot(slot):
    if slot > LAST_SLOT:
        raise NoSuchRegister()
