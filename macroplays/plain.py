"""The editor, and the plain commands on it.

Each command answers whether it was done: False means that it failed and changed nothing.
"""

MOST_BYTES = 60


class Editor:
    """A text (a tuple of bytes), the place in it, and what is held: 0, or 1 more than the byte."""

    def __init__(self, text, place, held):
        self.text = text
        self.place = place
        self.held = held

    def state(self):
        """All that may change, as one value that can be remembered and compared."""
        return (self.text, self.place, self.held)

    def restore(self, state):
        self.text = state[0]
        self.place = state[1]
        self.held = state[2]

    def twin(self):
        return Editor(self.text, self.place, self.held)

    def told(self):
        return [len(self.text), self.place, self.held]

    def here(self):
        """The byte here, or None."""
        if self.place < len(self.text):
            return self.text[self.place]
        return None


def put_in(editor, byte):
    if len(editor.text) >= MOST_BYTES:
        return False
    editor.text = editor.text[:editor.place] + (byte,) + editor.text[editor.place:]
    editor.place += 1
    return True


def go_left(editor):
    if editor.place == 0:
        return False
    editor.place -= 1
    return True


def go_right(editor):
    if editor.here() is None:
        return False
    editor.place += 1
    return True


def take_out(editor):
    if editor.here() is None:
        return False
    editor.text = editor.text[:editor.place] + editor.text[editor.place + 1:]
    return True


def go_to_any(editor, byte, places):
    """To the first of these places that has the byte."""
    for place in places:
        if editor.text[place] == byte:
            editor.place = place
            return True
    return False


def seek_right(editor, byte):
    return go_to_any(editor, byte, list(range(editor.place + 1, len(editor.text))))


def seek_left(editor, byte):
    return go_to_any(editor, byte, list(range(editor.place - 1, -1, -1)))


def go_first(editor):
    editor.place = 0
    return True


def go_last(editor):
    editor.place = len(editor.text)
    return True


def exchange(editor):
    place = editor.place
    if place + 2 > len(editor.text):
        return False
    pair = (editor.text[place + 1], editor.text[place])
    editor.text = editor.text[:place] + pair + editor.text[place + 2:]
    return True


def expect(editor, byte):
    return editor.here() == byte


def expect_other(editor, byte):
    # No byte here is other than any byte: only `expect` minds that there is none.
    return editor.here() != byte


def hold(editor):
    byte = editor.here()
    if byte is None:
        return False
    editor.held = byte + 1
    return True


def put_held(editor):
    if editor.held == 0:
        return False
    return put_in(editor, editor.held - 1)


BARE = {
    1: go_left,
    2: go_right,
    3: take_out,
    6: go_first,
    7: go_last,
    8: exchange,
    11: hold,
    12: put_held,
}

WITH_BYTE = {
    0: put_in,
    4: seek_right,
    5: seek_left,
    9: expect,
    10: expect_other,
}


def do_plain(editor, command):
    if len(command) == 1:
        return BARE[command[0]](editor)
    return WITH_BYTE[command[0]](editor, command[1])
