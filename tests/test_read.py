"""Promise 5, and promise 4 as it is read."""

import unittest

from helper import BACK, HUGE, NEW, START, ask, ask_last, come, gone, greater, named, parted, read, turned, whole


class NotThere(unittest.TestCase):
    first = [come("x", "v"), come("y", "w"), NEW]

    def refused(self, v, number, f):
        self.assertEqual(ask_last(*self.first, read(v, number, f)), -2)

    def test_no_such_version(self):
        for v in (3, 4, 16, 255, 2 ** 32, HUGE):
            self.refused(v, 0, "x")

    def test_no_such_row(self):
        for number in (1, 2, 32, 2 ** 32, HUGE):
            self.refused(2, number, "x")

    def test_no_row_at_all(self):
        self.assertEqual(ask_last(come("x", "v"), read(1, 0, "x")), -2)

    def test_no_such_field_in_that_version(self):
        for v, f in ((0, "x"), (1, "y"), (2, "z"), (2, ""), (2, "X"), (2, "xx"), (2, "x" * 16), (2, "x" * 17)):
            self.refused(v, 0, f)

    def test_all_three_at_once(self):
        self.refused(HUGE, HUGE, "")

    def test_a_field_before_it_came_and_behind_where_it_went(self):
        calls = [START, come("y"), come("x", "v"), gone("x"), NEW, *[read(v, 0, "x") for v in range(4)]]
        self.assertEqual(ask(*calls)[-4:], [-2, -2, "v", -2])

    def test_a_version_that_has_gone(self):
        calls = [START, come("x", "v"), NEW, come("y", "w"), read(2, 0, "y"), BACK, read(2, 0, "y"), read(2, 0, "x")]
        self.assertEqual(ask(*calls)[-4:], ["w", 2, -2, -2])

    def test_behind_a_second_start(self):
        calls = [START, come("x", "v"), NEW, START, read(1, 0, "x"), come("x", "w"), read(1, 0, "x")]
        self.assertEqual(ask(*calls)[-4:], [0, -2, 1, -2])

    def test_a_refused_one_changes_nothing(self):
        for call in (read(3, 0, "x"), read(2, 1, "x"), read(1, 0, "y")):
            self.assertEqual(whole(*self.first, call), whole(*self.first))


class TheValue(unittest.TestCase):
    def test_of_each_size(self):
        for size in (0, 1, 2, 63, 64):
            self.assertEqual(ask_last(come("x", "v" * size), NEW, read(1, 0, "x")), "v" * size)

    def test_of_any_bytes(self):
        value = "".join(map(chr, range(0, 256, 4)))
        self.assertEqual(ask_last(come("x", value), NEW, read(1, 0, "x")), value)

    def test_of_a_name_of_16_bytes(self):
        for name in ("n" * 16, "\0" * 16, "\xff"):
            self.assertEqual(ask_last(come(name, "v"), NEW, read(1, 0, name)), "v")

    def test_of_each_row_its_own(self):
        calls = [START, come("x", "v"), NEW, *[NEW] * 31, read(1, 0, "x"), read(1, 31, "x"), read(1, 32, "x")]
        self.assertEqual(ask(*calls)[-3:], ["v", "v", -2])

    def test_reading_changes_nothing(self):
        calls = [START, come("x", "v"), NEW, *[read(1, 0, "x")] * 3]
        self.assertEqual(ask(*calls)[-3:], ["v"] * 3)


class EachKindBeforeAndBehind(unittest.TestCase):
    """Promise 4 (and 2): a new row has what a row that was there is carried on to."""

    def expect(self, changes, versions):
        self.assertEqual(whole(*changes, NEW), [versions])
        self.assertEqual(whole(NEW, *changes), [versions])
        self.assertEqual(whole(changes[0], NEW, *changes[1:], NEW, rows=2), [versions, versions])

    def test_come(self):
        changes = [come("x", "one"), come("y", ""), come("z", "t" * 64)]
        self.expect(changes, [
            {}, {"x": "one"}, {"x": "one", "y": ""}, {"x": "one", "y": "", "z": "t" * 64},
        ])

    def test_gone(self):
        changes = [come("x", "one"), come("y", "two"), gone("x")]
        self.expect(changes, [{}, {"x": "one"}, {"x": "one", "y": "two"}, {"y": "two"}])

    def test_a_field_gone_whose_name_comes_again(self):
        changes = [come("x", "one"), gone("x"), come("x", "two")]
        self.expect(changes, [{}, {"x": "one"}, {}, {"x": "two"}])

    def test_named(self):
        changes = [come("x", "one"), come("y", "two"), named("x", "z"), named("y", "x")]
        self.expect(changes, [
            {}, {"x": "one"}, {"x": "one", "y": "two"}, {"z": "one", "y": "two"}, {"z": "one", "x": "two"},
        ])

    def test_turned(self):
        changes = [come("x", "no"), come("y", "no"), turned("x", "no", "yes"), turned("x", "no", "yes")]
        self.expect(changes, [
            {}, {"x": "no"}, {"x": "no", "y": "no"}, {"x": "yes", "y": "no"}, {"x": "no", "y": "no"},
        ])

    def test_greater(self):
        changes = [come("x", "98765"), come("y", "0"), greater("x", 2), greater("y", 9), greater("x", 9)]
        self.expect(changes, [
            {}, {"x": "98765"}, {"x": "98765", "y": "0"}, {"x": "987", "y": "0"}, {"x": "987", "y": "0"},
            {"x": "0", "y": "0"},
        ])

    def test_greater_of_18_and_19_digits(self):
        changes = [come("x", "9" * 18), come("y", "9" * 19), greater("x", 9), greater("y", 9)]
        self.expect(changes, [
            {}, {"x": "9" * 18}, {"x": "9" * 18, "y": "9" * 19}, {"x": "9" * 9, "y": "9" * 19},
            {"x": "9" * 9, "y": "9" * 19},
        ])

    def test_parted(self):
        changes = [come("x", "a-b-c"), parted("x", "y", "z", 45), parted("z", "x", "z", 45), parted("z", "z", "w", 45)]
        self.expect(changes, [
            {}, {"x": "a-b-c"}, {"y": "a", "z": "b-c"}, {"y": "a", "x": "b", "z": "c"},
            {"y": "a", "x": "b", "z": "c", "w": ""},
        ])

    def test_all_behind_one_another(self):
        changes = [
            come("x", "1200-ct"), parted("x", "n", "u", 45), greater("n", 2), turned("u", "ct", "eur"), named("n", "x"),
            gone("u"),
        ]
        self.expect(changes, [
            {}, {"x": "1200-ct"}, {"n": "1200", "u": "ct"}, {"n": "12", "u": "ct"}, {"n": "12", "u": "eur"},
            {"x": "12", "u": "eur"}, {"x": "12"},
        ])


if __name__ == "__main__":
    unittest.main()
