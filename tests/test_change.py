"""Promise 2: what a change answers, and its fields."""

import unittest

from helper import BACK, HUGE, NEW, START, ask, ask_last, change, come, gone, greater, named, parted, turned
from shapeshift.changes import Change
from shapeshift.versions import Versions


def fields_by_parting(count):
    return [come([0])] + [parted([0], [0], [k], 45) for k in range(1, count)]


class NewVersions(unittest.TestCase):
    def test_each_kind_answers_the_new_number(self):
        calls = [
            START, come("x", "12-3"), turned("x", "", "0"), greater("x", 1), parted("x", "y", "z", 45),
            named("y", "w"), gone("z"),
        ]
        self.assertEqual(ask(*calls), [0, 1, 2, 3, 4, 5, 6])

    def test_with_rows_there(self):
        self.assertEqual(ask(START, NEW, come("x"), NEW, gone("x"), NEW), [0, 0, 1, 1, 2, 2])

    def test_what_a_kind_does_not_use_is_not_asked(self):
        long = "l" * 17
        for call in (
            change(0, "n", long, long, "", HUGE),
            change(0, "n", "n", "n", "", HUGE),
            change(1, "x", long, long, [7] * 80, HUGE),
            change(2, "x", "n", long, [7] * 80, HUGE),
            change(3, "x", "p", "q", [7] * 80, HUGE),
            change(4, "x", long, long, [7] * 80, 9),
            change(5, "x", "p", "q", [7] * 80, 255),
        ):
            self.assertEqual(ask_last(come("x"), call), 2, call)

    def test_a_gone_field_is_there_no_more(self):
        self.assertEqual(ask_last(come("x"), gone("x"), gone("x")), -2)

    def test_a_gone_name_comes_again(self):
        calls = [come("x"), gone("x"), come("x"), come("x"), gone("x"), come("x")]
        self.assertEqual(ask(START, *calls), [0, 1, 2, 3, -17, 4, 5])

    def test_a_name_comes_again_behind_named_and_parted(self):
        self.assertEqual(ask_last(come("x"), named("x", "y"), come("x")), 3)
        self.assertEqual(ask_last(come("x"), parted("x", "y", "z", 0), come("x")), 3)
        self.assertEqual(ask_last(come("x"), gone("x"), come("y"), named("y", "x")), 4)

    def test_named_is_called_b_and_no_more_a(self):
        self.assertEqual(ask(START, come("x"), named("x", "y"), gone("x"), gone("y")), [0, 1, 2, -2, 3])

    def test_named_as_before(self):
        self.assertEqual(ask(START, come("x"), named("x", "x"), gone("x")), [0, 1, 2, 3])

    def test_parted_leaves_b_and_c_and_no_a(self):
        calls = [come("x"), parted("x", "y", "z", 45), gone("x"), gone("y"), gone("z")]
        self.assertEqual(ask(START, *calls), [0, 1, 2, -2, 3, 4])

    def test_parted_with_a_as_b_or_as_c(self):
        for b, c in (("x", "z"), ("y", "x")):
            calls = [come("x"), parted("x", b, c, 45), gone(b), gone(c)]
            self.assertEqual(ask(START, *calls), [0, 1, 2, 3, 4])

    def test_turned_and_greater_leave_the_name(self):
        self.assertEqual(ask_last(come("x"), turned("x", "p", "q"), gone("x")), 3)
        self.assertEqual(ask_last(come("x"), greater("x", 3), gone("x")), 3)

    def test_names_are_told_apart_by_every_byte(self):
        calls = [come([0]), come([0, 0]), come([255]), come("x" * 16), come("x" * 15), come("X" * 16)]
        self.assertEqual(ask(START, *calls), [0, 1, 2, 3, 4, 5, 6])


class TheFieldsOfAVersion(unittest.TestCase):
    def fields(self, *changes):
        versions = Versions()
        versions.begin_anew()
        for given in changes:
            self.assertGreater(versions.add_version(Change(*given)), 0)
        return versions.shapes

    def three(self, kind, number, b, c):
        come_three = [(0, 0, [k], [], [], []) for k in (1, 2, 3)]
        return self.fields(*come_three, (kind, number, [2], b, c, []))[-1]

    def test_version_0_has_none(self):
        self.assertEqual(self.fields(), [[]])

    def test_the_new_one_is_the_last(self):
        shapes = self.fields((0, 0, [9], [], [], []), (0, 0, [1], [], [], []), (0, 0, [5], [], [], []))
        self.assertEqual(shapes, [[], [[9]], [[9], [1]], [[9], [1], [5]]])

    def test_the_others_keep_their_order(self):
        self.assertEqual(self.three(1, 0, [], []), [[1], [3]])
        self.assertEqual(self.three(2, 0, [8], []), [[1], [8], [3]])
        self.assertEqual(self.three(3, 0, [8], [9]), [[1], [2], [3]])
        self.assertEqual(self.three(4, 1, [8], [9]), [[1], [2], [3]])
        self.assertEqual(self.three(5, 0, [8], [9]), [[1], [8], [9], [3]])
        self.assertEqual(self.three(5, 0, [9], [2]), [[1], [9], [2], [3]])


class SixteenVersions(unittest.TestCase):
    def test_the_16th_and_the_one_behind_it(self):
        calls = [come([k]) for k in range(16)]
        self.assertEqual(ask(START, *calls), list(range(16)) + [-28])

    def test_of_every_kind(self):
        full = [come([k]) for k in range(15)]
        for call in (
            come("x"), gone([0]), named([0], "n"), turned([0], "p", "q"), greater([0], 1), parted([0], "p", "q", 0),
        ):
            self.assertEqual(ask_last(*full, call), -28)

    def test_is_answered_before_all_else(self):
        full = [come([k]) for k in range(15)]
        for call in (change(6, "x"), change(HUGE), come(""), gone("none"), come([0])):
            self.assertEqual(ask_last(*full, call), -28)

    def test_room_again_behind_st_back(self):
        full = [come([k]) for k in range(15)]
        self.assertEqual(ask(START, *full, come("x"), BACK, come("x"), come("y"))[-4:], [-28, 15, 15, -28])


class Malformed(unittest.TestCase):
    def refused(self, call):
        self.assertEqual(ask_last(come("x"), call), -22, call)

    def taken(self, call):
        self.assertEqual(ask_last(come("x"), call), 2, call)

    def test_the_kind(self):
        self.taken(change(5, "x", "y", "z"))
        for kind in (6, 7, 255, 256, 2 ** 32, HUGE):
            self.refused(change(kind, "x", "y", "z", "v", 1))

    def test_a_of_each_kind(self):
        for kind in range(6):
            for a in ("", "x" * 17):
                self.refused(change(kind, a, "y", "z", "v", 1))

    def test_a_new_name_of_1_and_of_16_bytes(self):
        for size in (1, 16):
            self.taken(come("n" * size))
            self.taken(named("x", "n" * size))
            self.taken(parted("x", "n" * size, "c", 45))
            self.taken(parted("x", "b", "n" * size, 45))

    def test_a_name_of_16_bytes_is_found(self):
        name = "n" * 16
        for call in (gone(name), named(name, "m"), turned(name, "p", "q"), greater(name, 1), parted(name, "p", "q", 0)):
            self.assertEqual(ask_last(come(name), call), 2)

    def test_a_new_name_of_0_and_of_17_bytes(self):
        for size in (0, 17):
            self.refused(come("n" * size))
            self.refused(named("x", "n" * size))
            self.refused(parted("x", "n" * size, "c", 45))
            self.refused(parted("x", "b", "n" * size, 45))

    def test_the_value_of_kind_0(self):
        for size in (0, 1, 63, 64):
            self.taken(come("n", [7] * size))
        for size in (65, 66, 80):
            self.refused(come("n", [7] * size))

    def test_the_texts_of_kind_3(self):
        self.taken(turned("x", "p" * 16, "q" * 16))
        self.taken(turned("x", "", "q"))
        self.taken(turned("x", "p", ""))
        self.refused(turned("x", "p" * 17, "q"))
        self.refused(turned("x", "p", "q" * 17))

    def test_the_texts_of_kind_3_are_the_same(self):
        self.refused(turned("x", "p", "p"))
        self.refused(turned("x", "", ""))
        self.refused(turned("x", "p" * 16, "p" * 16))

    def test_the_number_of_kind_4(self):
        for number in (1, 2, 8, 9):
            self.taken(greater("x", number))
        for number in (0, 10, 11, HUGE):
            self.refused(greater("x", number))

    def test_the_number_of_kind_5(self):
        for number in (0, 1, 9, 10, 254, 255):
            self.taken(parted("x", "y", "z", number))
        for number in (256, 257, HUGE):
            self.refused(parted("x", "y", "z", number))

    def test_is_answered_before_no_such_field(self):
        for call in (
            change(6, "none"), gone(""), named("none", ""), turned("none", "p", "p"), greater("none", 0),
            parted("none", "y", "z", 256), parted("none", "y", "", 0),
        ):
            self.refused(call)

    def test_is_answered_before_a_name_that_is_there(self):
        self.refused(come("x", [7] * 65))
        self.refused(parted("x", "y", "y", 256))
        self.refused(parted("x", "", "", 0))
        self.assertEqual(ask_last(come("x"), come("y"), parted("x", "y", "z", 256)), -22)
        self.assertEqual(ask_last(come("x"), come("y"), parted("x", "y", "", 0)), -22)


class NoSuchField(unittest.TestCase):
    def of_each_kind(self, name):
        return [gone(name), named(name, "n"), turned(name, "p", "q"), greater(name, 1), parted(name, "p", "q", 0)]

    def test_of_kinds_1_to_5(self):
        for call in self.of_each_kind("none"):
            self.assertEqual(ask_last(call), -2)
            self.assertEqual(ask_last(come("x"), call), -2)

    def test_a_part_of_a_name_is_no_name_there(self):
        for call in self.of_each_kind("x") + self.of_each_kind("xyz"):
            self.assertEqual(ask_last(come("xy"), call), -2)

    def test_the_last_version_counts_not_one_before(self):
        for call in self.of_each_kind("x"):
            self.assertEqual(ask_last(come("x"), gone("x"), call), -2)

    def test_is_answered_before_a_name_that_is_there(self):
        self.assertEqual(ask_last(come("x"), named("none", "x")), -2)
        self.assertEqual(ask_last(come("x"), parted("none", "x", "y", 0)), -2)
        self.assertEqual(ask_last(come("x"), parted("none", "y", "y", 0)), -2)


class NameTaken(unittest.TestCase):
    def test_of_kind_0(self):
        self.assertEqual(ask_last(come("x"), come("x")), -17)
        self.assertEqual(ask_last(come("x"), come("y"), come("x")), -17)
        self.assertEqual(ask_last(come("x" * 16), come("x" * 16)), -17)

    def test_of_kind_2(self):
        self.assertEqual(ask_last(come("x"), come("y"), named("x", "y")), -17)
        self.assertEqual(ask_last(come("x"), come("y"), named("y", "x")), -17)

    def test_of_kind_5_b(self):
        self.assertEqual(ask_last(come("x"), come("y"), parted("x", "y", "z", 45)), -17)
        self.assertEqual(ask_last(come("x"), come("y"), parted("x", "y", "x", 45)), -17)

    def test_of_kind_5_c(self):
        self.assertEqual(ask_last(come("x"), come("y"), parted("x", "z", "y", 45)), -17)
        self.assertEqual(ask_last(come("x"), come("y"), parted("x", "x", "y", 45)), -17)

    def test_of_kind_5_b_and_c_the_same(self):
        self.assertEqual(ask_last(come("x"), parted("x", "y", "y", 45)), -17)
        self.assertEqual(ask_last(come("x"), parted("x", "x", "x", 45)), -17)


class SixteenFields(unittest.TestCase):
    """15 changes make at most 15 fields, each one more: so the functions beneath are asked of 16."""

    def versions_with(self, count):
        versions = Versions()
        versions.begin_anew()
        versions.shapes[0] = [[k] for k in range(count)]
        versions.rows = [[[[] for k in range(count)]]]
        return versions

    def made(self, count, *given):
        return self.versions_with(count).add_version(Change(*given))

    def test_15_fields_by_calls(self):
        self.assertEqual(ask_last(*[come([k]) for k in range(15)]), 15)
        self.assertEqual(ask_last(*fields_by_parting(15)), 15)

    def test_the_16th_and_the_one_behind_it(self):
        for given in ((0, 0, [99], [], [], []), (5, 45, [3], [98], [99], []), (5, 45, [3], [3], [99], [])):
            self.assertEqual(self.made(15, *given), 1)
            self.assertEqual(self.made(16, *given), -28)

    def test_kinds_that_bring_no_more(self):
        for given in (
            (1, 0, [3], [], [], []), (2, 0, [3], [99], [], []), (3, 0, [3], [98], [99], []), (4, 1, [3], [], [], []),
        ):
            self.assertEqual(self.made(16, *given), 1)

    def test_a_name_that_is_there_is_answered_first(self):
        self.assertEqual(self.made(16, 0, 0, [3], [], [], []), -17)
        self.assertEqual(self.made(16, 5, 45, [3], [4], [99], []), -17)
        self.assertEqual(self.made(16, 5, 45, [3], [99], [99], []), -17)

    def test_the_others_are_answered_first(self):
        self.assertEqual(self.made(16, 0, 0, [99], [], [], [7] * 65), -22)
        self.assertEqual(self.made(16, 5, 45, [77], [98], [99], []), -2)


class ARefusedChange(unittest.TestCase):
    def test_changes_nothing_for_the_calls_behind_it(self):
        refused = [
            (change(6, "x"), -22), (come("", "v"), -22), (come("n", [7] * 65), -22), (gone("none"), -2),
            (named("x", "y"), -17), (parted("x", "z", "z", 45), -17), (come("x"), -17),
        ]
        for call, number in refused:
            calls = [START, come("x"), come("y"), NEW, call, NEW, gone("x"), gone("y"), BACK, BACK, BACK, BACK, BACK]
            self.assertEqual(ask(*calls), [0, 1, 2, 0, number, 1, 3, 4, 4, 3, 2, 1, -2])

    def test_changes_nothing_beneath(self):
        versions = Versions()
        versions.begin_anew()
        versions.add_version(Change(0, 0, [1], [], [], [8, 45, 9]))
        versions.add_version(Change(0, 0, [2], [], [], []))
        versions.add_row()
        changes = list(versions.changes)
        for given in ((6, 0, [1], [], [], []), (1, 0, [3], [], [], []), (5, 45, [1], [2], [3], []), (0, 0, [1], [], [], [])):
            self.assertLess(versions.add_version(Change(*given)), 0)
            self.assertEqual(versions.shapes, [[], [[1]], [[1], [2]]])
            self.assertEqual(versions.changes, changes)
            self.assertEqual(versions.rows, [[[], [[8, 45, 9]], [[8, 45, 9], []]]])

    def test_changes_nothing_beneath_where_all_is_full(self):
        versions = Versions()
        versions.begin_anew()
        for k in range(15):
            versions.add_version(Change(0, 0, [k], [], [], [k]))
        versions.add_row()
        rows = [list(row) for row in versions.rows]
        self.assertEqual(versions.add_version(Change(1, 0, [3], [], [], [])), -28)
        self.assertEqual((len(versions.shapes), len(versions.changes), versions.rows), (16, 15, rows))


if __name__ == "__main__":
    unittest.main()
