"""What the tests share: building calls, asking them, and reading the text back."""

from macroplays.editor import answers

MOST = 4294967295


def flat(commands):
    return [number for command in commands for number in command]


def with_length(row):
    return [len(row)] + list(row)


def text(place, data):
    return [0, place] + with_length(data)


def do(*commands):
    return [1] + with_length(flat(commands))


def fill(slot, *commands):
    return [2, slot] + with_length(flat(commands))


def get(slot):
    return [3, slot]


def record(slot, more):
    return [4, slot, more]


def ask(*calls):
    """The calls' answers, each a list of its own."""
    told = answers(flat(calls))
    split = []
    while told:
        length = told[0]
        split.append(told[1:1 + length])
        if len(split[-1]) != length:
            raise AssertionError("the answers end in the midst of one")
        told = told[1 + length:]
    if len(split) != len(calls):
        raise AssertionError("there are not as many answers as calls")
    return split


def last(*calls):
    return ask(*calls)[-1]


def text_after(*calls):
    """The text's bytes behind these calls, read by holding each byte (nothing may be recorded)."""
    length = last(*calls, do())[2]
    found = []
    for place in range(length):
        to_place = [do((6,), *[(2,)] * min(place, 30)), do(*[(2,)] * max(place - 30, 0))]
        found.append(last(*calls, *to_place, do((11,)))[4] - 1)
    return bytes(found)
