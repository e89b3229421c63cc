"""Promise 7."""

import unittest

from helper import BACK, HUGE, NEW, START, ask, ask_last, come, field, gone, greater, named, names, parted, turned


class NotThere(unittest.TestCase):
    def test_no_such_version(self):
        for v in (2, 3, 16, 2 ** 32, HUGE):
            self.assertEqual(ask_last(come("x"), field(v, 0)), -2)

    def test_no_such_field(self):
        for k in (1, 2, 16, 2 ** 32, HUGE):
            self.assertEqual(ask_last(come("x"), field(1, k)), -2)

    def test_version_0_has_none(self):
        self.assertEqual(ask(START, field(0, 0), field(0, HUGE)), [0, -2, -2])

    def test_both_at_once(self):
        self.assertEqual(ask_last(field(HUGE, HUGE)), -2)

    def test_a_version_that_has_gone(self):
        self.assertEqual(ask(START, come("x"), field(1, 0), BACK, field(1, 0))[2:], ["x", 1, -2])

    def test_a_refused_one_changes_nothing(self):
        self.assertEqual(names(come("x"), field(2, 0), field(1, 1)), [[], ["x"]])


class TheNames(unittest.TestCase):
    def test_in_their_order_in_each_version(self):
        calls = [
            come("x"), come("a"), come("m"), gone("a"), named("x", "q"), turned("q", "1", "2"), greater("m", 1),
            parted("q", "z", "b", 45), come("a"), gone("z"),
        ]
        self.assertEqual(names(*calls), [
            [], ["x"], ["x", "a"], ["x", "a", "m"], ["x", "m"], ["q", "m"], ["q", "m"], ["q", "m"], ["z", "b", "m"],
            ["z", "b", "m", "a"], ["b", "m", "a"],
        ])

    def test_the_number_of_a_field_stands_for_its_place(self):
        calls = [START, come("x"), come("y"), parted("x", "p", "q", 45), *[field(3, k) for k in range(4)]]
        self.assertEqual(ask(*calls)[4:], ["p", "q", "y", -2])

    def test_a_name_comes_again_as_the_last(self):
        self.assertEqual(names(come("x"), come("y"), gone("x"), come("x"))[-1], ["y", "x"])

    def test_parted_with_a_as_b_or_as_c(self):
        self.assertEqual(names(come("x"), come("y"), parted("x", "x", "z", 45))[-1], ["x", "z", "y"])
        self.assertEqual(names(come("x"), come("y"), parted("x", "z", "x", 45))[-1], ["z", "x", "y"])

    def test_of_1_and_of_16_bytes_and_of_any(self):
        for name in ("n", "n" * 16, "\0", "\xff" * 16, "".join(map(chr, range(16)))):
            self.assertEqual(ask_last(come(name), field(1, 0)), name)

    def test_with_15_fields(self):
        self.assertEqual(names(*[come([k]) for k in range(15)])[15], [chr(k) for k in range(15)])

    def test_rows_or_none_are_the_same(self):
        self.assertEqual(names(come("x"), NEW, come("y")), names(come("x"), come("y")))

    def test_a_refused_change_leaves_them(self):
        for call in (come("x"), named("x", "y"), gone("z"), parted("x", "p", "p", 45), greater("x", 0)):
            self.assertEqual(names(come("x"), come("y"), call), [[], ["x"], ["x", "y"]])


if __name__ == "__main__":
    unittest.main()
