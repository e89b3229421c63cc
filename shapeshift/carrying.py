"""How a row's values in a version become those in the next one, and in the one before."""

from shapeshift.changes import COME, GONE, GREATER, PARTED, TURNED, names_in_place
from shapeshift.limits import MOST_DIGITS

NOUGHT = 48
NINE = 57


def is_plain_number(value):
    if not 1 <= len(value) <= MOST_DIGITS:
        return False
    if len(value) > 1 and value[0] == NOUGHT:
        return False
    return all([NOUGHT <= byte <= NINE for byte in value])


def in_greater_units(value, number):
    if not is_plain_number(value):
        return value
    # Without its last digits a number is divided by that power of ten and rounded down.
    if len(value) > number:
        return value[:len(value) - number]
    return [NOUGHT]


def in_smaller_units(value, number):
    if value == [NOUGHT]:
        return value
    longer = value + [NOUGHT] * number
    if is_plain_number(value) and is_plain_number(longer):
        return longer
    return value


def turned_about(value, b, c):
    if value == b:
        return c
    if value == c:
        return b
    return value


def parted_at(value, byte):
    if byte not in value:
        return [value, []]
    place = value.index(byte)
    return [value[:place], value[place + 1:]]


def joined_at(b, c, byte):
    if c == []:
        return b
    return b + [byte] + c


def values_in_place(change, value):
    if change.kind == GONE:
        return []
    if change.kind == TURNED:
        return [turned_about(value, change.b, change.c)]
    if change.kind == GREATER:
        return [in_greater_units(value, change.number)]
    if change.kind == PARTED:
        return parted_at(value, change.number)
    return [value]


# No value before the change tells what a field that came has, so it is handed in as came.
def carried_on(change, fields, values, came):
    if change.kind == COME:
        return values + [came]
    place = fields.index(change.a)
    return values[:place] + values_in_place(change, values[place]) + values[place + 1:]


# Several values may lead to the same parts; kept, which stood there, is not lost where it is one of them.
def value_before(change, parts, kept):
    if change.kind == GONE:
        return kept
    if change.kind == TURNED:
        return turned_about(parts[0], change.b, change.c)
    if change.kind == GREATER or change.kind == PARTED:
        if values_in_place(change, kept) == parts:
            return kept
    if change.kind == GREATER:
        return in_smaller_units(parts[0], change.number)
    if change.kind == PARTED:
        return joined_at(parts[0], parts[1], change.number)
    return parts[0]


# fields and kept are those before the change, values those behind it.
def carried_back(change, fields, values, kept):
    if change.kind == COME:
        return values[:-1]
    place = fields.index(change.a)
    end = place + len(names_in_place(change))
    return values[:place] + [value_before(change, values[place:end], kept[place])] + values[end:]
