"""How a row's values become others in every version when one of them is written."""

from shapeshift.carrying import carried_back, carried_on
from shapeshift.changes import COME
from shapeshift.limits import LONGEST_VALUE


# behind has the row's values behind the change: what came stands last there, and keeps what it has.
def carried_on_keeping(change, fields, values, behind):
    came = behind[-1] if change.kind == COME else []
    return carried_on(change, fields, values, came)


# row has the values version by version; what is given back is another such row.
def row_written(shapes, changes, row, v, field, value):
    place = shapes[v].index(field)
    after = list(row)
    after[v] = row[v][:place] + [value] + row[v][place + 1:]
    for k in range(v, len(changes)):
        after[k + 1] = carried_on_keeping(changes[k], shapes[k], after[k], row[k + 1])
    for k in range(v - 1, -1, -1):
        after[k] = carried_back(changes[k], shapes[k], after[k + 1], row[k])
    return after


def all_agree(shapes, changes, row):
    values = row[0]
    for k, change in enumerate(changes):
        values = carried_on_keeping(change, shapes[k], values, row[k + 1])
        if values != row[k + 1]:
            return False
    return True


def has_too_long(values):
    return any([len(value) > LONGEST_VALUE for value in values])


# A value may agree and be too long all the same: two parts that each fit, joined again.
def may_stand(shapes, changes, row):
    return all_agree(shapes, changes, row) and not any([has_too_long(values) for values in row])


def how_many_differ(before, after):
    return len([1 for old, new in zip(before, after) if old != new])
