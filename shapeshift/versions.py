"""The object that the calls are made on: its versions and its rows."""

from shapeshift.carrying import carried_on
from shapeshift.changes import fields_behind, refusal
from shapeshift.limits import AT_ODDS, FULL, LONGEST_VALUE, MOST_ROWS, MOST_VERSIONS, NOT_THERE
from shapeshift.writing import how_many_differ, may_stand, row_written


# shapes has the names of each version's fields; changes[v] leads from version v to v + 1.
# rows[r][v] has the values of row r in version v, in the order of that version's fields.
class Versions:
    def __init__(self):
        self.shapes = []
        self.changes = []
        self.rows = []

    def begin_anew(self):
        self.shapes = [[]]
        self.changes = []
        self.rows = []
        return 0

    def add_version(self, change):
        if len(self.shapes) == MOST_VERSIONS:
            return FULL
        fields = self.shapes[-1]
        refused = refusal(change, fields)
        if refused < 0:
            return refused
        self.shapes.append(fields_behind(change, fields))
        self.changes.append(change)
        self.rows = [row + [carried_on(change, fields, row[-1], change.value)] for row in self.rows]
        return len(self.shapes) - 1

    def drop_version(self):
        if len(self.shapes) == 1:
            return NOT_THERE
        self.shapes.pop()
        self.changes.pop()
        self.rows = [row[:-1] for row in self.rows]
        return len(self.shapes)

    def add_row(self):
        if len(self.rows) == MOST_ROWS:
            return FULL
        row = [[]]
        for fields, change in zip(self.shapes, self.changes):
            row.append(carried_on(change, fields, row[-1], change.value))
        self.rows.append(row)
        return len(self.rows) - 1

    def has_value(self, v, row, field):
        return v < len(self.shapes) and row < len(self.rows) and field in self.shapes[v]

    def value_of(self, v, row, field):
        return self.rows[row][v][self.shapes[v].index(field)]

    def write_value(self, v, row, field, value):
        if not self.has_value(v, row, field):
            return NOT_THERE
        if len(value) > LONGEST_VALUE:
            return FULL
        before = self.rows[row]
        after = row_written(self.shapes, self.changes, before, v, field, value)
        if not may_stand(self.shapes, self.changes, after):
            return AT_ODDS
        self.rows[row] = after
        return how_many_differ(before, after)

    def has_field(self, v, k):
        return v < len(self.shapes) and k < len(self.shapes[v])

    def name_of(self, v, k):
        return self.shapes[v][k]
