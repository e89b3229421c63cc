"""The interface: calls and answers in numbers, and that nothing is kept or changed outside."""

import unittest

from helper import BACK, NEW, START, ask, change, come, field, gone, greater, in_numbers, parted, read, turned, whole
from helper import write
from shapeshift.store import UnknownCall, answers


class TheListGivenBack(unittest.TestCase):
    def test_one_call(self):
        self.assertEqual(answers([0]), [2, 0, 0])

    def test_number_by_number(self):
        calls = [
            0,
            1, 0, 0, 2, 97, 98, 0, 0, 3, 1, 2, 3,
            3,
            1, 5, 45, 2, 97, 98, 1, 98, 1, 99, 0,
            3,
            2,
            2,
            2,
            1, 6, 0, 1, 97, 0, 0, 0,
        ]
        given = [2, 0, 0, 2, 0, 1, 2, 0, 0, 2, 0, 2, 2, 0, 1, 2, 0, 2, 2, 0, 1, 2, 0, -2, 2, 0, -22]
        self.assertEqual(answers(calls), given)

    def test_both_forms_number_by_number(self):
        calls = [
            0,
            1, 0, 0, 2, 97, 98, 0, 0, 3, 1, 45, 3,
            1, 5, 45, 2, 97, 98, 1, 98, 1, 99, 0,
            3,
            4, 1, 0, 2, 97, 98,
            4, 2, 0, 1, 98,
            5, 2, 0, 1, 99, 0,
            4, 2, 0, 1, 99,
            4, 1, 0, 2, 97, 98,
            4, 0, 0, 2, 97, 98,
            5, 2, 0, 1, 98, 1, 45,
            6, 1, 0,
            6, 2, 1,
            6, 2, 2,
        ]
        given = [
            2, 0, 0,
            2, 0, 1,
            2, 0, 2,
            2, 0, 0,
            5, 1, 3, 1, 45, 3,
            3, 1, 1, 1,
            2, 0, 2,
            2, 1, 0,
            3, 1, 1, 1,
            2, 0, -2,
            2, 0, -13,
            4, 1, 2, 97, 98,
            3, 1, 1, 99,
            2, 0, -2,
        ]
        self.assertEqual(answers(calls), given)

    def test_64_bytes_in_numbers(self):
        calls = in_numbers([START, come("x"), NEW, write(1, 0, "x", [9] * 64), read(1, 0, "x")])
        self.assertEqual(answers(calls), [2, 0, 0, 2, 0, 1, 2, 0, 0, 2, 0, 1, 66, 1, 64] + [9] * 64)

    def test_numbers_are_whole_numbers_and_no_truth_values(self):
        calls = [
            START, come("x", "v"), NEW, come("x"), read(1, 0, "x"), read(1, 1, "x"), write(1, 0, "x", "b"),
            write(1, 0, "x", "b"), field(1, 0), field(1, 1), BACK, BACK,
        ]
        given = answers(in_numbers(calls))
        self.assertIs(type(given), list)
        self.assertEqual({type(number) for number in given}, {int})

    def test_rows_that_look_like_calls_are_read_as_rows(self):
        calls = [START, change(0, [0, 1, 2, 3], [2, 2], [3], [0, 0]), NEW, BACK]
        self.assertEqual(ask(*calls), [0, 1, 0, 1])

    def test_a_value_of_more_than_64_is_read_past(self):
        for size in (65, 80):
            calls = [START, change(0, "x", value=[3] * size), NEW, change(0, "x", value=[3] * 64), NEW]
            self.assertEqual(ask(*calls), [0, -22, 0, 1, 1])

    def test_rows_of_the_later_calls_that_look_like_calls(self):
        name = [4, 1, 0]
        calls = [START, come(name, [6]), NEW, write(1, 0, name, [0, 0, 3]), read(1, 0, name), field(1, 0)]
        self.assertEqual(ask(*calls), [0, 1, 0, 1, "\0\0\3", "\4\1\0"])

    def test_a_written_b_of_more_than_64_is_read_past(self):
        for size in (65, 80):
            calls = [START, come("x", "v"), NEW, write(1, 0, "x", [3] * size), NEW, read(1, 0, "x")]
            self.assertEqual(ask(*calls), [0, 1, 0, -28, 1, "v"])

    def test_3000_calls(self):
        calls = [START] + [BACK, NEW, START] * 999 + [NEW, NEW]
        self.assertEqual(ask(*calls), [0] + [-2, 0, 0] * 999 + [0, 1])

    def test_3000_calls_on_a_full_store(self):
        first = [START, come("x", "1")] + [turned("x", "0", "1")] * 14 + [NEW] * 32
        calls = first + [write(1 + k % 15, k % 32, "x", [48 + k % 2]) for k in range(2951)] + [read(15, 31, "x")]
        self.assertEqual(len(calls), 3000)
        told = ask(*calls)
        self.assertEqual(told[:48], list(range(16)) + list(range(32)))
        self.assertEqual(set(told[48:-1]), {0, 15})
        self.assertIn(told[-1], ("0", "1"))

    def test_16000_numbers(self):
        refused = change(0, "x" * 17, "y" * 17, "z" * 17, [5] * 80)
        calls = [0] + refused * 115 + [3] * 129
        self.assertEqual(len(calls), 16000)
        told = [0] + [-22] * 115 + list(range(32)) + [-28] * 97
        self.assertEqual(answers(calls), in_numbers([[2, 0, number] for number in told]))


    def test_16000_numbers_of_writes_and_reads(self):
        calls = [START, come("x"), NEW] + [write(1, 0, "x", [k] * 64) for k in range(220)] + [read(1, 0, "x")] * 13
        numbers = in_numbers(calls)
        rest = 16000 - len(numbers)
        self.assertGreater(rest, 0)
        value = [66, 1, 64] + [219] * 64
        told = [2, 0, 0, 2, 0, 1, 2, 0, 0] + [2, 0, 1] * 220 + value * 13
        self.assertEqual(answers(numbers + [2] * rest), told + [2, 0, 1] + [2, 0, -2] * (rest - 1))


class NoSuchCall(unittest.TestCase):
    def test_is_not_answered(self):
        for calls in ([0, 7], [0, 3, 99], [-1]):
            with self.assertRaises(UnknownCall):
                answers(calls)


class NothingKept(unittest.TestCase):
    def test_the_list_handed_in_is_as_it_was(self):
        calls = in_numbers([START, come("x", "a-b"), NEW, parted("x", "y", "z", 45), NEW, BACK, BACK, BACK])
        before = list(calls)
        answers(calls)
        self.assertEqual(calls, before)

    def test_the_list_handed_in_is_as_it_was_behind_writes(self):
        calls = in_numbers([
            START, come("x", "12-3"), NEW, parted("x", "y", "z", 45), greater("y", 1), write(3, 0, "y", "7"),
            write(2, 0, "y", "-"), write(1, 0, "x", "v"), read(3, 0, "z"), field(3, 1), gone("z"), BACK,
        ])
        before = list(calls)
        answers(calls)
        self.assertEqual(calls, before)

    def test_nothing_is_asked_of_the_list_but_to_be_read(self):
        class Fixed(list):
            def refuse(self, *given):
                raise AssertionError("the list handed in is changed")

            append = extend = insert = pop = remove = clear = reverse = sort = refuse
            __setitem__ = __delitem__ = __iadd__ = __imul__ = refuse

        calls = [START, come("x", "v"), NEW, write(1, 0, "x", "b"), read(1, 0, "x"), field(1, 0), BACK]
        self.assertEqual(answers(Fixed(in_numbers(calls))), answers(in_numbers(calls)))

    def test_two_calls_know_nothing_of_each_other(self):
        calls = in_numbers([START, come("x"), come("y"), NEW, NEW])
        first = answers(calls)
        self.assertEqual(answers(calls), first)
        self.assertEqual(answers([0, 2]), [2, 0, 0, 2, 0, -2])
        self.assertEqual(answers(calls), first)

    def test_what_is_written_is_gone_with_the_object(self):
        calls = in_numbers([START, come("x", "v"), NEW, read(1, 0, "x"), write(1, 0, "x", "b"), read(1, 0, "x")])
        first = answers(calls)
        self.assertEqual(first[9:], [3, 1, 1, 118, 2, 0, 1, 3, 1, 1, 98])
        self.assertEqual(answers(calls), first)

    def test_a_list_given_back_is_the_askers_own(self):
        first = answers([0, 3])
        first.clear()
        self.assertEqual(answers([0, 3]), [2, 0, 0, 2, 0, 0])


class NothingShared(unittest.TestCase):
    def test_rows_with_the_same_value_are_written_one_by_one(self):
        calls = [come("x", "v"), come("y", "v"), NEW, NEW, NEW, write(2, 1, "x", "b"), write(1, 2, "x", "c")]
        self.assertEqual(whole(*calls, rows=3), [
            [{}, {"x": x}, {"x": x, "y": "v"}] for x in ("v", "b", "c")
        ])

    def test_a_changes_value_stays_behind_writes(self):
        calls = [come("x", "v"), NEW, write(1, 0, "x", "b"), write(1, 0, "x", ""), NEW, BACK, come("x", "v"), NEW]
        self.assertEqual(whole(*calls, rows=3), [[{}, {"x": "v"}]] * 3)

    def test_versions_with_the_same_value_are_told_apart(self):
        calls = [come("x", "5"), greater("x", 1), come("y", "5"), NEW, write(1, 0, "x", "6")]
        self.assertEqual(whole(*calls), [[{}, {"x": "6"}, {"x": "0"}, {"x": "0", "y": "5"}]])


if __name__ == "__main__":
    unittest.main()
