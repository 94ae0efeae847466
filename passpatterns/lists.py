"""The interface: the calls on one object as one list of whole numbers, and their answers as another."""

from passpatterns.questions import fits, least
from passpatterns.store import Store

ADD = 0
DROP = 1
LISTS = 2
BECOMES = 3
RULE = 4
FITS = 5
LEAST = 6


class UnknownCall(ValueError):
    """No call has this number."""


class Reader:
    """Goes through the numbers of the calls from the first to the last."""

    def __init__(self, calls):
        self.calls = calls
        self.place = 0

    def at_end(self):
        return self.place >= len(self.calls)

    def number(self):
        self.place += 1
        return self.calls[self.place - 1]

    def row(self):
        length = self.number()
        start = self.place
        self.place += length
        return self.calls[start:self.place]


def answer(store, reader):
    """Reads the next call and answers it."""
    call = reader.number()
    if call == ADD:
        directory = reader.row()
        return store.add(directory, reader.row())
    if call == DROP:
        return store.drop(reader.number())
    if call == LISTS:
        return store.list_count()
    if call == BECOMES:
        is_directory = reader.number()
        return store.becomes(is_directory, reader.row())
    if call == RULE:
        number = reader.number()
        return store.rule(number, reader.number())
    if call == FITS:
        is_directory = reader.number()
        pattern = reader.row()
        return fits(is_directory, pattern, reader.row())
    if call == LEAST:
        return least(reader.row())
    raise UnknownCall(f"there is no call {call}")


def answers(calls):
    store = Store()
    reader = Reader(calls)
    given = []
    while not reader.at_end():
        answered = answer(store, reader)
        given.append(len(answered))
        given.extend(answered)
    return given
