"""Taking apart what is handed in: the calls' numbers, and rows of commands."""

from macroplays.refusals import WrongNumbers

# How many numbers each command is told by, from command 0 on.
LENGTHS = (2, 1, 1, 1, 2, 2, 1, 1, 1, 2, 2, 1, 1, 2, 3, 2)

FIRST_THAT_PLAYS = 13
LAST_BYTE = 255
LAST_SLOT = 9
MOST_COMMANDS = 40


class Reader:
    """Goes through a list of numbers without changing it."""

    def __init__(self, numbers):
        self.numbers = numbers
        self.position = 0

    def at_end(self):
        return self.position >= len(self.numbers)

    def take(self):
        number = self.numbers[self.position]
        self.position += 1
        return number

    def take_row(self):
        length = self.take()
        row = self.numbers[self.position:self.position + length]
        self.position += length
        return row


def read_commands(numbers):
    """The commands, each a tuple of its numbers; refused if one isn't as it may be, or they're too many."""
    commands = split_commands(numbers)
    if len(commands) > MOST_COMMANDS:
        raise WrongNumbers()
    for command in commands:
        check_command(command)
    return commands


def split_commands(numbers):
    commands = []
    position = 0
    while position < len(numbers):
        end = position + LENGTHS[numbers[position]]
        commands.append(tuple(numbers[position:end]))
        position = end
    return commands


def check_command(command):
    if len(command) == 1:
        return
    # How many times (command 14) stands third and may be any number.
    most = LAST_SLOT if command[0] >= FIRST_THAT_PLAYS else LAST_BYTE
    if command[1] > most:
        raise WrongNumbers()
