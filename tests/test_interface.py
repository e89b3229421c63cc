import unittest

from helper import BACK, NEW, START, ask, change, come, in_numbers, parted
from shapeshift.store import UnknownCall, answers


class TheListGivenBack(unittest.TestCase):
    def test_one_call(self):
        self.assertEqual(answers([0]), [2, 0, 0])

    def test_number_by_number(self):
        calls = [
            0,
            1, 0, 0, 2, 97, 98, 0, 0, 3, 1, 2, 3,
            3,
            1, 5, 45, 2, 97, 98, 1, 98, 1, 99, 0,
            3,
            2,
            2,
            2,
            1, 6, 0, 1, 97, 0, 0, 0,
        ]
        given = [2, 0, 0, 2, 0, 1, 2, 0, 0, 2, 0, 2, 2, 0, 1, 2, 0, 2, 2, 0, 1, 2, 0, -2, 2, 0, -22]
        self.assertEqual(answers(calls), given)

    def test_numbers_are_whole_numbers_and_no_truth_values(self):
        given = answers(in_numbers([START, come("x"), NEW, come("x"), BACK, BACK]))
        self.assertIs(type(given), list)
        self.assertEqual({type(number) for number in given}, {int})

    def test_rows_that_look_like_calls_are_read_as_rows(self):
        calls = [START, change(0, [0, 1, 2, 3], [2, 2], [3], [0, 0]), NEW, BACK]
        self.assertEqual(ask(*calls), [0, 1, 0, 1])

    def test_a_value_of_more_than_64_is_read_past(self):
        for size in (65, 80):
            calls = [START, change(0, "x", value=[3] * size), NEW, change(0, "x", value=[3] * 64), NEW]
            self.assertEqual(ask(*calls), [0, -22, 0, 1, 1])

    def test_3000_calls(self):
        calls = [START] + [BACK, NEW, START] * 999 + [NEW, NEW]
        self.assertEqual(ask(*calls), [0] + [-2, 0, 0] * 999 + [0, 1])

    def test_16000_numbers(self):
        refused = change(0, "x" * 17, "y" * 17, "z" * 17, [5] * 80)
        calls = [0] + refused * 115 + [3] * 129
        self.assertEqual(len(calls), 16000)
        told = [0] + [-22] * 115 + list(range(32)) + [-28] * 97
        self.assertEqual(answers(calls), in_numbers([[2, 0, number] for number in told]))


class NoSuchCall(unittest.TestCase):
    def test_is_not_answered(self):
        for calls in ([0, 7], [0, 3, 99], [-1]):
            with self.assertRaises(UnknownCall):
                answers(calls)


class NothingKept(unittest.TestCase):
    def test_the_list_handed_in_is_as_it_was(self):
        calls = in_numbers([START, come("x", "a-b"), NEW, parted("x", "y", "z", 45), NEW, BACK, BACK, BACK])
        before = list(calls)
        answers(calls)
        self.assertEqual(calls, before)

    def test_two_calls_know_nothing_of_each_other(self):
        calls = in_numbers([START, come("x"), come("y"), NEW, NEW])
        first = answers(calls)
        self.assertEqual(answers(calls), first)
        self.assertEqual(answers([0, 2]), [2, 0, 0, 2, 0, -2])
        self.assertEqual(answers(calls), first)

    def test_a_list_given_back_is_the_askers_own(self):
        first = answers([0, 3])
        first.clear()
        self.assertEqual(answers([0, 3]), [2, 0, 0, 2, 0, 0])


if __name__ == "__main__":
    unittest.main()
