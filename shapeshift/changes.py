"""What leads from a version to the next one, and which fields it leaves."""

from shapeshift.limits import FULL, MALFORMED, NOT_THERE, TAKEN
from shapeshift.limits import LAST_BYTE, LONGEST_NAME, LONGEST_TURNED, LONGEST_VALUE, MOST_FIELDS, MOST_NOUGHTS

COME = 0
GONE = 1
NAMED = 2
TURNED = 3
GREATER = 4
PARTED = 5


class Change:
    def __init__(self, kind, number, a, b, c, value):
        self.kind = kind
        self.number = number
        self.a = a
        self.b = b
        self.c = c
        self.value = value


def is_name(name):
    return 1 <= len(name) <= LONGEST_NAME


def has_bad_name(change):
    if not is_name(change.a):
        return True
    if change.kind == NAMED:
        return not is_name(change.b)
    if change.kind == PARTED:
        return not is_name(change.b) or not is_name(change.c)
    return False


def has_bad_texts(change):
    return len(change.b) > LONGEST_TURNED or len(change.c) > LONGEST_TURNED or change.b == change.c


def is_malformed(change):
    if change.kind > PARTED or has_bad_name(change):
        return True
    if change.kind == COME:
        return len(change.value) > LONGEST_VALUE
    if change.kind == TURNED:
        return has_bad_texts(change)
    if change.kind == GREATER:
        return not 1 <= change.number <= MOST_NOUGHTS
    if change.kind == PARTED:
        return change.number > LAST_BYTE
    return False


def names_in_place(change):
    if change.kind == GONE:
        return []
    if change.kind == NAMED:
        return [change.b]
    if change.kind == PARTED:
        return [change.b, change.c]
    return [change.a]


def fields_behind(change, fields):
    if change.kind == COME:
        return fields + [change.a]
    place = fields.index(change.a)
    return fields[:place] + names_in_place(change) + fields[place + 1:]


def has_one_twice(names):
    return any([names.count(name) > 1 for name in names])


# Gives 0 where the change may be made.
def refusal(change, fields):
    if is_malformed(change):
        return MALFORMED
    if change.kind != COME and change.a not in fields:
        return NOT_THERE
    behind = fields_behind(change, fields)
    # A version's names differ, so a name stands twice only if it came and was there already.
    if has_one_twice(behind):
        return TAKEN
    if len(behind) > MOST_FIELDS:
        return FULL
    return 0
