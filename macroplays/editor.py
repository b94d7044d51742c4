"""The interface: a list of calls in, the list of their answers out."""

from macroplays.reading import Reader
from macroplays.refusals import Refused
from macroplays.session import Session

# Each of these takes all of its call from the reader before the session may refuse it:
# the next call begins right behind.


def answer_text(session, reader):
    place = reader.take()
    numbers = reader.take_row()
    return session.start_text(place, numbers)


def answer_do(session, reader):
    numbers = reader.take_row()
    return session.do(numbers)


def answer_set(session, reader):
    slot = reader.take()
    numbers = reader.take_row()
    return session.fill(slot, numbers)


def answer_get(session, reader):
    slot = reader.take()
    return session.look_up(slot)


def answer_record(session, reader):
    slot = reader.take()
    more = reader.take()
    return session.record(slot, more)


def answer_stop(session, reader):
    return session.stop_recording()


def answer_shows(session, reader):
    return session.shows()


def answer_undo(session, reader):
    return session.undo()


def answer_would(session, reader):
    numbers = reader.take_row()
    return session.would(numbers)


def answer_period(session, reader):
    slot = reader.take()
    return session.period(slot)


CALLS = {
    0: answer_text,
    1: answer_do,
    2: answer_set,
    3: answer_get,
    4: answer_record,
    5: answer_stop,
    6: answer_shows,
    7: answer_undo,
    8: answer_would,
    9: answer_period,
}


def answer_call(session, reader):
    call = CALLS[reader.take()]
    try:
        return call(session, reader)
    except Refused as refusal:
        return [refusal.number]


def answers(calls):
    """What is answered of the calls on a new editor, each answer behind how many numbers it has."""
    reader = Reader(calls)
    session = Session()
    told = []
    while not reader.at_end():
        answer = answer_call(session, reader)
        told.append(len(answer))
        told.extend(answer)
    return told
