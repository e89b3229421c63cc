"""How values are carried back (promise 6)."""

import unittest

from helper import NEW, ask_last, come, gone, greater, named, parted, row, turned, whole, write
from shapeshift.carrying import carried_back, in_smaller_units
from shapeshift.changes import Change


class Greater(unittest.TestCase):
    def before(self, number, was, written):
        """What x has before kind 4, if it was and is written behind it."""
        return whole(come("x", was), greater("x", number), NEW, write(2, 0, "x", written))[0][1]["x"]

    def test_stays_what_it_was_if_that_gives_what_is_there(self):
        for number, was, written in (
            (1, "19", "1"), (2, "1234", "12"), (3, "57", "0"), (9, "999999999", "0"), (9, "9" * 18, "9" * 9),
            (1, "0", "0"), (1, "", ""), (1, "ten", "ten"), (1, "010", "010"), (1, "9" * 19, "9" * 19),
        ):
            self.assertEqual(self.before(number, was, written), was)

    def test_stays_what_it_was_through_several_versions(self):
        calls = [come("x", "98765"), greater("x", 2), greater("x", 2), NEW]
        self.assertEqual(ask_last(*calls, write(3, 0, "x", "9")), 0)
        self.assertEqual(whole(*calls, write(2, 0, "x", "999"))[0], [{}, {"x": "99900"}, {"x": "999"}, {"x": "9"}])

    def test_else_the_noughts_behind_it(self):
        for number, was, written, there in (
            (1, "19", "2", "20"), (2, "1234", "13", "1300"), (3, "57", "1", "1000"), (9, "ten", "9", "9000000000"),
            (1, "", "10", "100"), (9, "5", "9" * 9, "9" * 9 + "0" * 9), (1, "010", "1", "10"),
        ):
            self.assertEqual(self.before(number, was, written), there)

    def test_0_stays_0(self):
        for number in (1, 9):
            for was in ("1" + "0" * 9, "ten", "", "00"):
                self.assertEqual(self.before(number, was, "0"), "0")

    def test_what_is_no_plain_number_is_the_same(self):
        for number in (1, 2, 9):
            for written in ("", "00", "01", "-1", "1.0", "ten", "1 ", "9" * 19, "b" * 64):
                self.assertEqual(self.before(number, "1234", written), written)

    def test_no_plain_number_any_more_is_the_same(self):
        self.assertEqual(in_smaller_units(row("1" * 17), 1), row("1" * 17 + "0"))
        self.assertEqual(in_smaller_units(row("1" * 18), 1), row("1" * 18))
        self.assertEqual(in_smaller_units(row("1" * 9), 9), row("1" * 9 + "0" * 9))
        self.assertEqual(in_smaller_units(row("1" * 10), 9), row("1" * 10))
        calls = [come("x", "1234"), greater("x", 9), NEW]
        self.assertEqual(ask_last(*calls, write(2, 0, "x", "1" * 10)), -13)


class Parted(unittest.TestCase):
    def before(self, was, f, written):
        """What x has before kind 5, if it was and is written behind it."""
        return whole(come("x", was), parted("x", "y", "z", 45), NEW, write(2, 0, f, written))[0][1]["x"]

    def test_stays_what_it_was_if_that_gives_what_is_there(self):
        for was, y, z in (
            ("a-b", "a", "b"), ("a-", "a", ""), ("a", "a", ""), ("-", "", ""), ("", "", ""), ("--", "", "-"),
        ):
            self.assertEqual(self.before(was, "y", y), was)
            self.assertEqual(self.before(was, "z", z), was)

    def test_b_alone_where_c_is_empty(self):
        for was in ("a", "a-", "-", ""):
            self.assertEqual(self.before(was, "y", "b"), "b")
        self.assertEqual(self.before("a-b", "z", ""), "a")
        self.assertEqual(self.before("-b", "z", ""), "")

    def test_b_the_byte_and_c_where_it_is_not(self):
        self.assertEqual(self.before("a-b", "y", "c"), "c-b")
        self.assertEqual(self.before("a-b", "y", ""), "-b")
        self.assertEqual(self.before("a-b", "z", "c"), "a-c")
        self.assertEqual(self.before("a", "z", "c"), "a-c")
        self.assertEqual(self.before("", "z", "c"), "-c")

    def test_two_of_the_bytes(self):
        self.assertEqual(self.before("a-b-c", "y", "d"), "d-b-c")
        self.assertEqual(self.before("a-b-c", "z", "d-e"), "a-d-e")
        self.assertEqual(self.before("a-b", "z", "-"), "a--")
        self.assertEqual(self.before("a", "z", "-"), "a--")
        self.assertEqual(self.before("a--", "z", ""), "a")

    def test_the_byte_at_the_end_is_lost_only_with_another_b(self):
        first = [come("x", "a-"), parted("x", "y", "z", 45), NEW, write(2, 0, "y", "b"), write(2, 0, "y", "a")]
        self.assertEqual(whole(*first)[0][1]["x"], "a")

    def test_the_first_and_the_last_byte_of_all(self):
        for byte in (0, 255):
            calls = [come("x", "a"), parted("x", "y", "z", byte), NEW, write(2, 0, "z", "b")]
            self.assertEqual(whole(*calls)[0][1]["x"], "a" + chr(byte) + "b")

    def test_a_as_b_and_as_c(self):
        calls = [come("x", "a-b"), parted("x", "x", "z", 45), NEW, write(2, 0, "x", "c")]
        self.assertEqual(whole(*calls)[0], [{}, {"x": "c-b"}, {"x": "c", "z": "b"}])
        calls = [come("x", "a-b"), parted("x", "y", "x", 45), NEW, write(2, 0, "x", "c")]
        self.assertEqual(whole(*calls)[0], [{}, {"x": "a-c"}, {"y": "a", "x": "c"}])


class CameAndGone(unittest.TestCase):
    def test_a_field_that_came_keeps_what_it_had(self):
        calls = [come("x", "v"), come("y", "w"), NEW, write(2, 0, "y", "b"), write(1, 0, "x", "c")]
        self.assertEqual(whole(*calls)[0], [{}, {"x": "c"}, {"x": "c", "y": "b"}])

    def test_a_field_that_has_gone_keeps_what_it_had(self):
        calls = [come("x", "v"), come("y", "w"), gone("x"), NEW, write(2, 0, "x", "b"), write(3, 0, "y", "c")]
        self.assertEqual(whole(*calls)[0], [{}, {"x": "b"}, {"x": "b", "y": "c"}, {"y": "c"}])

    def test_a_field_that_came_and_went(self):
        calls = [come("x", "v"), come("y", "w"), gone("y"), NEW, write(2, 0, "y", "b")]
        for v in (1, 2, 3):
            self.assertEqual(
                whole(*calls, write(v, 0, "x", "c"))[0], [{}, {"x": "c"}, {"x": "c", "y": "b"}, {"x": "c"}]
            )

    def test_a_field_gone_whose_name_comes_again(self):
        calls = [come("x", "v"), gone("x"), come("x", "w"), NEW]
        self.assertEqual(whole(*calls, write(1, 0, "x", "b"))[0], [{}, {"x": "b"}, {}, {"x": "w"}])
        self.assertEqual(whole(*calls, write(3, 0, "x", "b"))[0], [{}, {"x": "v"}, {}, {"x": "b"}])
        both = [write(3, 0, "x", "b"), write(1, 0, "x", "c")]
        self.assertEqual(whole(*calls, *both)[0], [{}, {"x": "c"}, {}, {"x": "b"}])

    def test_a_name_that_comes_again_with_another_field_about(self):
        calls = [come("x", "v"), come("y", "w"), gone("x"), come("x", "u"), NEW]
        self.assertEqual(whole(*calls, write(4, 0, "x", "b"), write(4, 0, "y", "c"))[0], [
            {}, {"x": "v"}, {"x": "v", "y": "c"}, {"y": "c"}, {"y": "c", "x": "b"},
        ])

    def test_a_part_that_has_gone(self):
        calls = [come("x", "a-b"), parted("x", "y", "z", 45), gone("z"), NEW, write(3, 0, "y", "c")]
        self.assertEqual(whole(*calls)[0], [{}, {"x": "c-b"}, {"y": "c", "z": "b"}, {"y": "c"}])


class OneChange(unittest.TestCase):
    def carried(self, kind, number, b, c, values, kept):
        change = Change(kind, number, [2], row(b), row(c), [])
        fields = [[1], [2], [3]]
        behind = [[101]] + [row(value) for value in values] + [[103]]
        before = [[111], row(kept), [113]]
        copies = ([list(value) for value in behind], [list(value) for value in before])
        given = carried_back(change, fields, behind, before)
        self.assertEqual((behind, before, fields), copies + ([[1], [2], [3]],))
        self.assertEqual((given[0], given[-1]), ([101], [103]))
        return ["".join(map(chr, value)) for value in given[1:-1]]

    def test_come(self):
        change = Change(0, 0, [2], [], [], [7])
        self.assertEqual(carried_back(change, [[1]], [[101], [8]], [[111]]), [[101]])
        self.assertEqual(carried_back(change, [], [[8]], []), [])

    def test_each_other_kind(self):
        self.assertEqual(self.carried(1, 0, "", "", [], "kept"), ["kept"])
        self.assertEqual(self.carried(2, 0, "n", "", ["v"], "kept"), ["v"])
        self.assertEqual(self.carried(3, 0, "p", "q", ["p"], "kept"), ["q"])
        self.assertEqual(self.carried(3, 0, "p", "q", ["q"], "kept"), ["p"])
        self.assertEqual(self.carried(3, 0, "p", "q", ["v"], "kept"), ["v"])
        self.assertEqual(self.carried(4, 1, "", "", ["5"], "kept"), ["50"])
        self.assertEqual(self.carried(4, 1, "", "", ["5"], "57"), ["57"])
        self.assertEqual(self.carried(5, 45, "n", "m", ["v", "w"], "kept"), ["v-w"])
        self.assertEqual(self.carried(5, 45, "n", "m", ["v", ""], "kept"), ["v"])
        self.assertEqual(self.carried(5, 45, "n", "m", ["v", ""], "v-"), ["v-"])

    def test_of_named_and_turned_what_it_was_does_not_count(self):
        calls = [come("x", "p"), named("x", "y"), turned("y", "p", "q"), NEW, write(3, 0, "y", "p")]
        self.assertEqual(whole(*calls)[0], [{}, {"x": "q"}, {"y": "q"}, {"y": "p"}])


if __name__ == "__main__":
    unittest.main()
