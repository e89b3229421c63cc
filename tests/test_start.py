"""Promise 1."""

import unittest

from helper import BACK, NEW, START, ask, come, gone
from shapeshift.versions import Versions


class Start(unittest.TestCase):
    def test_answers_0(self):
        self.assertEqual(ask(START), [0])

    def test_version_0_alone(self):
        self.assertEqual(ask(START, BACK), [0, -2])

    def test_version_0_has_no_field(self):
        self.assertEqual(ask(START, gone("x")), [0, -2])

    def test_no_rows(self):
        self.assertEqual(ask(START, NEW), [0, 0])

    def test_a_second_one_begins_anew(self):
        calls = [START, come("x"), come("y"), NEW, NEW, START, BACK, gone("x"), come("y"), NEW]
        self.assertEqual(ask(*calls), [0, 1, 2, 0, 1, 0, -2, -2, 1, 0])

    def test_a_second_one_of_a_full_store(self):
        calls = [START] + [come([k]) for k in range(15)] + [NEW] * 32 + [START, come([0]), NEW]
        self.assertEqual(ask(*calls)[-3:], [0, 1, 0])

    def test_three_in_a_row(self):
        self.assertEqual(ask(START, START, START), [0, 0, 0])

    def test_what_stands_beneath(self):
        versions = Versions()
        versions.begin_anew()
        versions.add_row()
        self.assertEqual(versions.begin_anew(), 0)
        self.assertEqual((versions.shapes, versions.changes, versions.rows), ([[]], [], []))


if __name__ == "__main__":
    unittest.main()
