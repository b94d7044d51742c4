"""What the tests share: building calls, asking them, reading the text back, and registers that count."""

from macroplays.editor import answers

MOST = 4294967295


def flat(commands):
    return [number for command in commands for number in command]


def with_length(row):
    return [len(row)] + list(row)


def text(place, data):
    return [0, place] + with_length(data)


def do(*commands):
    return [1] + with_length(flat(commands))


def fill(slot, *commands):
    return [2, slot] + with_length(flat(commands))


def get(slot):
    return [3, slot]


def record(slot, more):
    return [4, slot, more]


def stop():
    return [5]


def shows():
    return [6]


def undo():
    return [7]


def would(*commands):
    return [8] + with_length(flat(commands))


def period(slot):
    return [9, slot]


def ask(*calls):
    """The calls' answers, each a list of its own."""
    told = answers(flat(calls))
    split = []
    while told:
        length = told[0]
        split.append(told[1:1 + length])
        if len(split[-1]) != length:
            raise AssertionError("the answers end in the midst of one")
        told = told[1 + length:]
    if len(split) != len(calls):
        raise AssertionError("there are not as many answers as calls")
    return split


def last(*calls):
    return ask(*calls)[-1]


def text_after(*calls):
    return bytes(last(*calls, shows())[3:])


P, X, Y, ZERO, ONE = b"pxy01"

# The registers of a counter whose bits stand in the text, the least first.
COUNT_OR_FAIL, CLEAR_ONES, COUNT_ROUND, SET_ONE, MARK, COUNT_OR_STAY, COUNT_IF_ROOM, TURN = range(8)
COUNTER = [
    fill(COUNT_OR_FAIL, (6,), (15, CLEAR_ONES), (9, ZERO), (3,), (0, ONE), (6,)),
    fill(CLEAR_ONES, (9, ONE), (3,), (0, ZERO)),
    # The bits go round; the mark behind them, x, becomes y when they do so first.
    fill(COUNT_ROUND, (6,), (15, CLEAR_ONES), (15, SET_ONE), (15, MARK), (6,)),
    fill(SET_ONE, (9, ZERO), (3,), (0, ONE), (7,)),
    fill(MARK, (9, X), (3,), (0, Y)),
    # A byte p stands ahead of the bits; when they are all set, nothing changes.
    fill(COUNT_OR_STAY, (6,), (15, COUNT_IF_ROOM), (6,)),
    fill(COUNT_IF_ROOM, (9, P), (4, ZERO), (6,), (2,), (15, CLEAR_ONES), (3,), (0, ONE), (7,)),
    fill(TURN, (8,)),
]


def bits(value, length):
    return bytes(ONE if value >> place & 1 else ZERO for place in range(length))


def counter(value, length=10, ahead=b"", behind=b""):
    return COUNTER + [text(0, ahead + bits(value, length) + behind)]
