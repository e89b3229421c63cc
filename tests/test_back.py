"""Promise 3."""

import unittest

from helper import BACK, NEW, START, ask, come, gone, greater, named, parted, turned
from shapeshift.changes import Change
from shapeshift.versions import Versions

KINDS = (
    (0, 0, [9], [], [], [7]),
    (1, 0, [1], [], [], []),
    (2, 0, [1], [9], [], []),
    (3, 0, [1], [49, 50, 45, 51], [9], []),
    (4, 1, [2], [], [], []),
    (5, 45, [1], [8], [9], []),
)


class Back(unittest.TestCase):
    def test_version_0_alone(self):
        self.assertEqual(ask(START, BACK, BACK), [0, -2, -2])

    def test_how_many_there_are_left(self):
        self.assertEqual(ask(START, come("x"), come("y"), BACK, BACK, BACK), [0, 1, 2, 2, 1, -2])

    def test_from_16_versions(self):
        calls = [START] + [come([k]) for k in range(15)] + [BACK] * 16
        self.assertEqual(ask(*calls)[16:], list(range(15, 0, -1)) + [-2])

    def test_a_refused_one_changes_nothing(self):
        self.assertEqual(ask(START, NEW, BACK, NEW, come("x"), BACK, BACK), [0, 0, -2, 1, 1, 1, -2])

    def test_rows_stay(self):
        self.assertEqual(ask(START, come("x"), NEW, NEW, BACK, NEW), [0, 1, 0, 1, 1, 2])

    def test_the_fields_are_those_before_again(self):
        first = [START, come("x"), come("y")]
        for call, there, not_there in (
            (come("z"), "x", "z"), (gone("x"), "x", "z"), (named("x", "z"), "x", "z"),
            (turned("x", "p", "q"), "x", "p"), (greater("x", 1), "x", "z"), (parted("x", "z", "w", 45), "x", "z"),
        ):
            calls = first + [call, BACK, gone(not_there), gone(there), gone("y")]
            self.assertEqual(ask(*calls)[3:], [3, 3, -2, 3, 4])

    def test_a_number_is_given_again(self):
        self.assertEqual(ask(START, come("x"), BACK, come("x"), come("y")), [0, 1, 1, 1, 2])

    def test_a_version_more_and_back_again(self):
        for given in KINDS:
            versions = Versions()
            versions.begin_anew()
            versions.add_version(Change(0, 0, [1], [], [], [49, 50, 45, 51]))
            versions.add_version(Change(0, 0, [2], [], [], [49, 50, 51]))
            versions.add_row()
            versions.add_row()
            shapes = list(versions.shapes)
            changes = list(versions.changes)
            rows = [list(row) for row in versions.rows]
            self.assertEqual(versions.add_version(Change(*given)), 3)
            self.assertNotEqual(versions.rows, rows)
            self.assertEqual(versions.drop_version(), 3)
            self.assertEqual((versions.shapes, versions.changes, versions.rows), (shapes, changes, rows))

    def test_what_came_anew_has_its_own_value(self):
        versions = Versions()
        versions.begin_anew()
        versions.add_row()
        versions.add_version(Change(0, 0, [1], [], [], [7]))
        versions.drop_version()
        versions.add_version(Change(0, 0, [1], [], [], [8]))
        self.assertEqual(versions.rows, [[[], [[8]]]])


if __name__ == "__main__":
    unittest.main()
