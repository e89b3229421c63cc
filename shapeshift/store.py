"""The calls on one object, told and answered in numbers."""

from shapeshift.changes import Change
from shapeshift.versions import Versions

ST_START = 0
ST_CHANGE = 1
ST_BACK = 2
ST_NEW = 3

NUMBER_FORM = 0


class UnknownCall(ValueError):
    pass


class Reader:
    def __init__(self, calls):
        self.calls = calls
        self.place = 0

    def is_done(self):
        return self.place == len(self.calls)

    def take_number(self):
        number = self.calls[self.place]
        self.place += 1
        return number

    def take_row(self):
        size = self.take_number()
        row = self.calls[self.place:self.place + size]
        self.place += size
        return row


def take_change(reader):
    kind = reader.take_number()
    number = reader.take_number()
    a = reader.take_row()
    b = reader.take_row()
    c = reader.take_row()
    value = reader.take_row()
    return Change(kind, number, a, b, c, value)


def answer_next(versions, reader):
    call = reader.take_number()
    if call == ST_START:
        return [NUMBER_FORM, versions.begin_anew()]
    if call == ST_CHANGE:
        return [NUMBER_FORM, versions.add_version(take_change(reader))]
    if call == ST_BACK:
        return [NUMBER_FORM, versions.drop_version()]
    if call == ST_NEW:
        return [NUMBER_FORM, versions.add_row()]
    raise UnknownCall(f"there is no call {call}")


def answers(calls):
    reader = Reader(calls)
    versions = Versions()
    given = []
    while not reader.is_done():
        answer = answer_next(versions, reader)
        given.append(len(answer))
        given.extend(answer)
    return given
