"""The calls on one object, told and answered in numbers."""

from shapeshift.changes import Change
from shapeshift.limits import NOT_THERE
from shapeshift.versions import Versions

ST_START = 0
ST_CHANGE = 1
ST_BACK = 2
ST_NEW = 3
ST_READ = 4
ST_WRITE = 5
ST_FIELD = 6

NUMBER_FORM = 0
BYTES_FORM = 1


class UnknownCall(ValueError):
    pass


class Reader:
    def __init__(self, calls):
        self.calls = calls
        self.place = 0

    def is_done(self):
        return self.place == len(self.calls)

    def take_number(self):
        number = self.calls[self.place]
        self.place += 1
        return number

    def take_row(self):
        size = self.take_number()
        row = self.calls[self.place:self.place + size]
        self.place += size
        return row


def take_change(reader):
    kind = reader.take_number()
    number = reader.take_number()
    a = reader.take_row()
    b = reader.take_row()
    c = reader.take_row()
    value = reader.take_row()
    return Change(kind, number, a, b, c, value)


def told_number(number):
    return [NUMBER_FORM, number]


def told_bytes(row):
    return [BYTES_FORM, len(row)] + row


def answer_read(versions, reader):
    v = reader.take_number()
    row = reader.take_number()
    field = reader.take_row()
    if not versions.has_value(v, row, field):
        return told_number(NOT_THERE)
    return told_bytes(versions.value_of(v, row, field))


def answer_write(versions, reader):
    v = reader.take_number()
    row = reader.take_number()
    field = reader.take_row()
    value = reader.take_row()
    return told_number(versions.write_value(v, row, field, value))


def answer_field(versions, reader):
    v = reader.take_number()
    k = reader.take_number()
    if not versions.has_field(v, k):
        return told_number(NOT_THERE)
    return told_bytes(versions.name_of(v, k))


def answer_next(versions, reader):
    call = reader.take_number()
    if call == ST_START:
        return told_number(versions.begin_anew())
    if call == ST_CHANGE:
        return told_number(versions.add_version(take_change(reader)))
    if call == ST_BACK:
        return told_number(versions.drop_version())
    if call == ST_NEW:
        return told_number(versions.add_row())
    if call == ST_READ:
        return answer_read(versions, reader)
    if call == ST_WRITE:
        return answer_write(versions, reader)
    if call == ST_FIELD:
        return answer_field(versions, reader)
    raise UnknownCall(f"there is no call {call}")


def answers(calls):
    reader = Reader(calls)
    versions = Versions()
    given = []
    while not reader.is_done():
        answer = answer_next(versions, reader)
        given.append(len(answer))
        given.extend(answer)
    return given
