"""Promise 4, and how values are carried on (promises 2 and 4)."""

import unittest

from helper import BACK, NEW, START, ask, come, gone, row
from shapeshift.carrying import carried_on, is_plain_number
from shapeshift.changes import Change
from shapeshift.versions import Versions


def rows_of(given, rows_first):
    """The values of one row, version by version: there before all changes, or new behind them all."""
    versions = Versions()
    versions.begin_anew()
    if rows_first:
        versions.add_row()
    for kind, number, a, b, c, value in given:
        made = versions.add_version(Change(kind, number, row(a), row(b), row(c), row(value)))
        assert made > 0, made
    if not rows_first:
        versions.add_row()
    return versions.rows[0]


class RowNumbers(unittest.TestCase):
    def test_from_0_on(self):
        self.assertEqual(ask(START, NEW, NEW, come("x"), NEW), [0, 0, 1, 1, 2])

    def test_the_32nd_and_the_one_behind_it(self):
        self.assertEqual(ask(START, *[NEW] * 34), [0] + list(range(32)) + [-28, -28])

    def test_the_32nd_with_versions_there(self):
        calls = [START, come("x", "v"), gone("x")] + [NEW] * 33 + [come("y"), BACK, BACK]
        self.assertEqual(ask(*calls)[2:], [2] + list(range(32)) + [-28, 3, 3, 2])

    def test_a_refused_one_changes_nothing(self):
        versions = Versions()
        versions.begin_anew()
        versions.add_version(Change(0, 0, [1], [], [], [7]))
        for k in range(32):
            self.assertEqual(versions.add_row(), k)
        self.assertEqual(versions.add_row(), -28)
        self.assertEqual(versions.rows, [[[], [[7]]]] * 32)


class RowValues(unittest.TestCase):
    def expect(self, given, texts):
        """A row that was there is carried on to what a new row has."""
        values = [[row(text) for text in version] for version in texts]
        self.assertEqual(rows_of(given, False), values)
        self.assertEqual(rows_of(given, True), values)

    def test_in_version_0_nothing(self):
        self.expect([], [[]])

    def test_come(self):
        given = [(0, 0, "x", "", "", "one"), (0, 0, "y", "", "", ""), (0, 0, "z", "", "", "t" * 64)]
        self.expect(given, [[], ["one"], ["one", ""], ["one", "", "t" * 64]])

    def test_gone(self):
        given = [(0, 0, "x", "", "", "one"), (0, 0, "y", "", "", "two"), (1, 0, "x", "", "", "")]
        self.expect(given, [[], ["one"], ["one", "two"], ["two"]])

    def test_a_field_gone_whose_name_comes_again(self):
        given = [
            (0, 0, "x", "", "", "one"), (0, 0, "y", "", "", "two"), (1, 0, "x", "", "", ""),
            (0, 0, "x", "", "", "three"),
        ]
        self.expect(given, [[], ["one"], ["one", "two"], ["two"], ["two", "three"]])

    def test_named(self):
        given = [(0, 0, "x", "", "", "one"), (0, 0, "y", "", "", "two"), (2, 0, "x", "z", "", "")]
        self.expect(given, [[], ["one"], ["one", "two"], ["one", "two"]])

    def test_turned_and_turned_again(self):
        given = [(0, 0, "x", "", "", "no"), (3, 0, "x", "no", "", ""), (3, 0, "x", "yes", "", "")]
        self.expect(given, [[], ["no"], [""], ["yes"]])
        given = [(0, 0, "x", "", "", "no"), (3, 0, "x", "no", "yes", ""), (3, 0, "x", "no", "yes", "")]
        self.expect(given, [[], ["no"], ["yes"], ["no"]])

    def test_greater(self):
        given = [(0, 0, "x", "", "", "98765"), (4, 2, "x", "", "", ""), (4, 2, "x", "", "", ""), (4, 2, "x", "", "", "")]
        self.expect(given, [[], ["98765"], ["987"], ["9"], ["0"]])

    def test_parted_in_place(self):
        given = [
            (0, 0, "v", "", "", "first"), (0, 0, "x", "", "", "Ada King Byron"), (0, 0, "w", "", "", "last"),
            (5, 32, "x", "p", "q", ""), (5, 32, "q", "q", "r", ""), (5, 32, "r", "s", "r", ""),
        ]
        self.expect(given, [
            [], ["first"], ["first", "Ada King Byron"], ["first", "Ada King Byron", "last"],
            ["first", "Ada", "King Byron", "last"], ["first", "Ada", "King", "Byron", "last"],
            ["first", "Ada", "King", "Byron", "", "last"],
        ])

    def test_kinds_behind_one_another(self):
        given = [
            (0, 0, "x", "", "", "1200-ct"), (5, 45, "x", "n", "u", ""), (4, 2, "n", "", "", ""),
            (3, 0, "u", "ct", "eur", ""), (2, 0, "n", "x", "", ""),
        ]
        self.expect(given, [[], ["1200-ct"], ["1200", "ct"], ["12", "ct"], ["12", "eur"], ["12", "eur"]])


class CarriedOn(unittest.TestCase):
    def carried(self, kind, number, b, c, value):
        change = Change(kind, number, [2], row(b), row(c), [])
        given = carried_on(change, [[1], [2], [3]], [[101], row(value), [103]], [])
        self.assertEqual((given[0], given[-1]), ([101], [103]))
        return ["".join(map(chr, part)) for part in given[1:-1]]

    def test_a_field_that_came_keeps_what_it_had(self):
        change = Change(0, 0, [2], [], [], [7])
        self.assertEqual(carried_on(change, [[1]], [[101]], [8]), [[101], [8]])

    def test_what_is_handed_in_is_not_changed(self):
        for kind in range(6):
            fields = [[1], [2]]
            values = [[49, 50], [49, 45, 50]]
            carried_on(Change(kind, 1, [2], [49], [50], [7]), fields, values, [7])
            self.assertEqual((fields, values), ([[1], [2]], [[49, 50], [49, 45, 50]]))

    def test_turned(self):
        for value, there in (("p", "q"), ("q", "p"), ("", ""), ("pp", "pp"), ("pq", "pq"), ("P", "P")):
            self.assertEqual(self.carried(3, 0, "p", "q", value), [there])

    def test_turned_with_an_empty_text(self):
        for value, there in (("", "q"), ("q", ""), ("x", "x")):
            self.assertEqual(self.carried(3, 0, "", "q", value), [there])
            self.assertEqual(self.carried(3, 0, "q", "", value), [there])

    def test_greater(self):
        for number, value, there in (
            (1, "0", "0"), (9, "0", "0"), (1, "9", "0"), (1, "10", "1"), (1, "19", "1"), (2, "99", "0"),
            (2, "100", "1"), (3, "1999", "1"), (9, "999999999", "0"), (9, "1000000000", "1"),
        ):
            self.assertEqual(self.carried(4, number, "", "", value), [there])

    def test_greater_of_18_and_of_19_digits(self):
        self.assertEqual(self.carried(4, 9, "", "", "987654321" * 2), ["987654321"])
        self.assertEqual(self.carried(4, 1, "", "", "9" * 18), ["9" * 17])
        self.assertEqual(self.carried(4, 9, "", "", "1" * 19), ["1" * 19])

    def test_greater_of_anything_else_is_the_same(self):
        for value in ("", "00", "01", "012", "-10", "+10", " 10", "10 ", "1.0", "1e3", "ten", "10x", "/10", ":10", "\xb2"):
            self.assertEqual(self.carried(4, 1, "", "", value), [value])

    def test_parted(self):
        for value, b, c in (
            ("a-b", "a", "b"), ("a-b-c", "a", "b-c"), ("--", "", "-"), ("-", "", ""), ("-b", "", "b"), ("a-", "a", ""),
            ("ab", "ab", ""), ("", "", ""),
        ):
            self.assertEqual(self.carried(5, 45, "p", "q", value), [b, c])

    def test_parted_at_the_first_and_at_the_last_byte(self):
        self.assertEqual(self.carried(5, 0, "p", "q", "a\0b"), ["a", "b"])
        self.assertEqual(self.carried(5, 255, "p", "q", "a\xffb"), ["a", "b"])

    def test_plain_numbers(self):
        for text in ("0", "1", "9", "10", "1" + "0" * 17, "9" * 18):
            self.assertTrue(is_plain_number(row(text)), text)
        for text in ("", "00", "01", "0" * 18, "9" * 19, "1" + "0" * 18, "1a", "a1", "1/", "1:"):
            self.assertFalse(is_plain_number(row(text)), text)


if __name__ == "__main__":
    unittest.main()
