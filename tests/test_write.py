"""Promise 6: what a write answers, and what it leaves in each version."""

import unittest

from helper import BACK, HUGE, NEW, START, ask, ask_last, come, gone, greater, named, parted, read, turned, whole, write


class NotThere(unittest.TestCase):
    first = [come("x", "v"), come("y", "w"), NEW]

    def refused(self, number, call):
        self.assertEqual(ask_last(*self.first, call), number)
        self.assertEqual(whole(*self.first, call), whole(*self.first))

    def test_no_such_version(self):
        for v in (3, 4, 16, 2 ** 32, HUGE):
            self.refused(-2, write(v, 0, "x", "b"))

    def test_no_such_row(self):
        for number in (1, 32, 2 ** 32, HUGE):
            self.refused(-2, write(2, number, "x", "b"))

    def test_no_such_field_in_that_version(self):
        for v, f in ((0, "x"), (1, "y"), (2, "z"), (2, ""), (2, "xx"), (2, "x" * 17)):
            self.refused(-2, write(v, 0, f, "b"))

    def test_ahead_of_more_than_64_bytes(self):
        for size in (65, 80):
            self.refused(-2, write(3, 0, "x", "b" * size))
            self.refused(-2, write(2, 1, "x", "b" * size))
            self.refused(-2, write(2, 0, "z", "b" * size))

    def test_ahead_of_a_disagreement(self):
        calls = [come("x", "1-2"), parted("x", "y", "z", 45), NEW]
        self.assertEqual(ask_last(*calls, write(2, 0, "y", "a-b")), -13)
        self.assertEqual(ask_last(*calls, write(2, 1, "y", "a-b")), -2)
        self.assertEqual(ask_last(*calls, write(2, 0, "x", "a-b")), -2)

    def test_more_than_64_bytes(self):
        for size in (65, 66, 79, 80):
            self.refused(-28, write(2, 0, "x", "b" * size))

    def test_more_than_64_bytes_ahead_of_a_disagreement(self):
        calls = [come("x", "1-2"), parted("x", "y", "z", 45), NEW]
        self.assertEqual(ask_last(*calls, write(2, 0, "y", "-" * 64)), -13)
        self.assertEqual(ask_last(*calls, write(2, 0, "y", "-" * 65)), -28)

    def test_each_size_up_to_64_bytes_is_taken(self):
        for size in (0, 2, 63, 64):
            calls = [START, *self.first, write(1, 0, "x", "b" * size), read(1, 0, "x"), read(2, 0, "x")]
            self.assertEqual(ask(*calls)[-3:], [2, "b" * size, "b" * size])

    def test_any_bytes_are_taken(self):
        value = "".join(map(chr, range(3, 256, 4)))
        self.assertEqual(ask_last(*self.first, write(1, 0, "x", value), read(2, 0, "x")), value)


class Written(unittest.TestCase):
    """Each write by what it answers, and what stands in each version then."""

    def expect(self, calls, call, answer, values):
        self.assertEqual(ask_last(*calls, call), answer)
        before = whole(*calls)[0]
        after = whole(*calls, call)[0]
        self.assertEqual(after, values)
        self.assertEqual(answer, len([v for v in range(len(before)) if before[v] != after[v]]))

    def test_one_version(self):
        self.expect([come("x", "v"), NEW], write(1, 0, "x", "b"), 1, [{}, {"x": "b"}])

    def test_other_rows_stay(self):
        calls = [come("x", "v"), come("y", "w"), NEW, NEW, NEW, write(2, 1, "x", "b")]
        old = [{}, {"x": "v"}, {"x": "v", "y": "w"}]
        self.assertEqual(whole(*calls, rows=3), [old, [{}, {"x": "b"}, {"x": "b", "y": "w"}], old])

    def test_a_row_that_comes_later_has_the_changes_value(self):
        calls = [come("x", "v"), NEW, write(1, 0, "x", "b"), NEW]
        self.assertEqual(whole(*calls, rows=2), [[{}, {"x": "b"}], [{}, {"x": "v"}]])

    def test_a_version_that_comes_later_has_what_is_written(self):
        calls = [come("x", "v"), NEW, write(1, 0, "x", "1-2"), parted("x", "y", "z", 45)]
        self.assertEqual(whole(*calls), [[{}, {"x": "1-2"}, {"y": "1", "z": "2"}]])

    def test_through_come(self):
        calls = [come("x", "v"), come("y", "w"), NEW]
        self.expect(calls, write(1, 0, "x", "b"), 2, [{}, {"x": "b"}, {"x": "b", "y": "w"}])
        self.expect(calls, write(2, 0, "x", "b"), 2, [{}, {"x": "b"}, {"x": "b", "y": "w"}])
        self.expect(calls, write(2, 0, "y", "b"), 1, [{}, {"x": "v"}, {"x": "v", "y": "b"}])

    def test_through_gone(self):
        calls = [come("x", "v"), come("y", "w"), gone("x"), NEW]
        self.expect(calls, write(1, 0, "x", "b"), 2, [{}, {"x": "b"}, {"x": "b", "y": "w"}, {"y": "w"}])
        self.expect(calls, write(2, 0, "x", "b"), 2, [{}, {"x": "b"}, {"x": "b", "y": "w"}, {"y": "w"}])
        self.expect(calls, write(3, 0, "y", "b"), 2, [{}, {"x": "v"}, {"x": "v", "y": "b"}, {"y": "b"}])

    def test_through_named(self):
        calls = [come("x", "v"), come("y", "w"), named("x", "z"), NEW]
        values = [{}, {"x": "b"}, {"x": "b", "y": "w"}, {"z": "b", "y": "w"}]
        for v, f in ((1, "x"), (2, "x"), (3, "z")):
            self.expect(calls, write(v, 0, f, "b"), 3, values)

    def test_through_names_that_change_about(self):
        calls = [come("x", "v"), come("y", "w"), named("x", "z"), named("y", "x"), named("z", "y"), NEW]
        values = [
            {}, {"x": "v"}, {"x": "v", "y": "b"}, {"z": "v", "y": "b"}, {"z": "v", "x": "b"}, {"y": "v", "x": "b"},
        ]
        for v, f in ((2, "y"), (3, "y"), (4, "x"), (5, "x")):
            self.expect(calls, write(v, 0, f, "b"), 4, values)

    def test_through_turned(self):
        calls = [come("x", "v"), turned("x", "no", "yes"), NEW]
        for before, behind in (("no", "yes"), ("yes", "no"), ("", ""), ("b", "b"), ("nono", "nono")):
            self.expect(calls, write(1, 0, "x", before), 2, [{}, {"x": before}, {"x": behind}])
            self.expect(calls, write(2, 0, "x", behind), 2, [{}, {"x": before}, {"x": behind}])

    def test_through_turned_with_an_empty_text(self):
        calls = [come("x", "v"), turned("x", "", "none"), NEW]
        for before, behind in (("", "none"), ("none", ""), ("b", "b")):
            self.expect(calls, write(1, 0, "x", before), 2, [{}, {"x": before}, {"x": behind}])
            self.expect(calls, write(2, 0, "x", behind), 2, [{}, {"x": before}, {"x": behind}])

    def test_turned_and_turned_again(self):
        calls = [come("x", "v"), turned("x", "a", "b"), turned("x", "b", "c"), NEW]
        for values in (("a", "b", "c"), ("b", "a", "a"), ("c", "c", "b")):
            for v in (1, 2, 3):
                self.expect(calls, write(v, 0, "x", values[v - 1]), 3, [{}] + [{"x": value} for value in values])

    def test_through_greater(self):
        calls = [come("x", "v"), greater("x", 2), NEW]
        for before, behind in (("1234", "12"), ("99", "0"), ("0", "0"), ("b", "b"), ("", ""), ("0123", "0123")):
            self.expect(calls, write(1, 0, "x", before), 2, [{}, {"x": before}, {"x": behind}])
        for behind, before in (("12", "1200"), ("0", "0"), ("b", "b"), ("", ""), ("0123", "0123"), ("-1", "-1")):
            self.expect(calls, write(2, 0, "x", behind), 2, [{}, {"x": before}, {"x": behind}])

    def test_through_parted(self):
        calls = [come("x", "v-w"), parted("x", "y", "z", 45), NEW]
        for value, y, z in (("a-b", "a", "b"), ("a-b-c", "a", "b-c"), ("a", "a", ""), ("", "", ""), ("-", "", "")):
            self.expect(calls, write(1, 0, "x", value), 2, [{}, {"x": value}, {"y": y, "z": z}])
        self.expect(calls, write(2, 0, "y", "a"), 2, [{}, {"x": "a-w"}, {"y": "a", "z": "w"}])
        self.expect(calls, write(2, 0, "z", "b"), 2, [{}, {"x": "v-b"}, {"y": "v", "z": "b"}])
        self.expect(calls, write(2, 0, "z", ""), 2, [{}, {"x": "v"}, {"y": "v", "z": ""}])
        self.expect(calls, write(2, 0, "y", ""), 2, [{}, {"x": "-w"}, {"y": "", "z": "w"}])
        self.expect(calls, write(2, 0, "z", "b-c"), 2, [{}, {"x": "v-b-c"}, {"y": "v", "z": "b-c"}])

    def test_several_behind_one_another(self):
        calls = [
            come("x", "1200-ct"), parted("x", "n", "u", 45), greater("n", 2), turned("u", "ct", "eur"), named("n", "m"),
            come("w", "kept"), gone("u"), NEW,
        ]
        for v, f, value in ((1, "x", "3400-ct"), (2, "n", "3400"), (3, "n", "34"), (5, "m", "34"), (7, "m", "34")):
            self.expect(calls, write(v, 0, f, value), 7, [
                {}, {"x": "3400-ct"}, {"n": "3400", "u": "ct"}, {"n": "34", "u": "ct"}, {"n": "34", "u": "eur"},
                {"m": "34", "u": "eur"}, {"m": "34", "u": "eur", "w": "kept"}, {"m": "34", "w": "kept"},
            ])
        for v, value in ((3, "ct"), (4, "eur"), (6, "eur")):
            self.assertEqual(ask_last(*calls, write(v, 0, "u", value)), 0)
        self.expect(calls, write(6, 0, "u", "ct"), 6, [
            {}, {"x": "1200-eur"}, {"n": "1200", "u": "eur"}, {"n": "12", "u": "eur"}, {"n": "12", "u": "ct"},
            {"m": "12", "u": "ct"}, {"m": "12", "u": "ct", "w": "kept"}, {"m": "12", "w": "kept"},
        ])
        self.expect(calls, write(7, 0, "w", "else"), 2, [
            {}, {"x": "1200-ct"}, {"n": "1200", "u": "ct"}, {"n": "12", "u": "ct"}, {"n": "12", "u": "eur"},
            {"m": "12", "u": "eur"}, {"m": "12", "u": "eur", "w": "else"}, {"m": "12", "w": "else"},
        ])

    def test_greater_twice(self):
        calls = [come("x", "123456"), greater("x", 1), greater("x", 2), NEW]
        self.expect(calls, write(3, 0, "x", "7"), 3, [{}, {"x": "7000"}, {"x": "700"}, {"x": "7"}])
        self.expect(calls, write(2, 0, "x", "7"), 3, [{}, {"x": "70"}, {"x": "7"}, {"x": "0"}])
        self.expect(calls, write(2, 0, "x", "12399"), 2, [{}, {"x": "123990"}, {"x": "12399"}, {"x": "123"}])

    def test_parted_twice(self):
        calls = [come("x", "a b c"), parted("x", "p", "q", 32), parted("q", "q", "r", 32), NEW]
        self.expect(calls, write(3, 0, "q", "d"), 3, [
            {}, {"x": "a d c"}, {"p": "a", "q": "d c"}, {"p": "a", "q": "d", "r": "c"},
        ])
        self.expect(calls, write(3, 0, "r", ""), 3, [
            {}, {"x": "a b"}, {"p": "a", "q": "b"}, {"p": "a", "q": "b", "r": ""},
        ])

    def test_how_many_versions_are_told(self):
        calls = [come("x", "1250"), greater("x", 2), named("x", "y"), NEW]
        self.assertEqual(ask_last(*calls, write(1, 0, "x", "1299")), 1)
        self.assertEqual(ask_last(*calls, write(1, 0, "x", "1300")), 3)
        self.assertEqual(ask_last(*calls, write(2, 0, "x", "13")), 3)

    def test_with_16_versions(self):
        calls = [come("x", "v")] + [come([k]) for k in range(14)] + [NEW]
        for v in (1, 8, 15):
            self.assertEqual(ask_last(*calls, write(v, 0, "x", "b")), 15)
            calls_then = [START, *calls, write(v, 0, "x", "b"), *[read(k, 0, "x") for k in range(16)]]
            self.assertEqual(ask(*calls_then)[-16:], [-2] + ["b"] * 15)

    def test_in_the_32nd_row(self):
        calls = [START, come("x", "v"), *[NEW] * 32, write(1, 31, "x", "b"), read(1, 31, "x"), read(1, 30, "x")]
        self.assertEqual(ask(*calls)[-3:], [1, "b", "v"])

    def test_a_last_version_gone_behind_the_write(self):
        calls = [come("x", "123"), greater("x", 1), NEW, write(2, 0, "x", "7"), BACK]
        self.assertEqual(whole(*calls), [[{}, {"x": "70"}]])


class AsItWasRead(unittest.TestCase):
    def test_0_and_nothing_changed(self):
        calls = [
            come("x", "1234-"), come("n", "0199"), come("m", "99"), parted("x", "x", "z", 45), greater("x", 3),
            greater("n", 1), greater("m", 2), turned("z", "", "none"), gone("n"), come("n", ""), NEW,
        ]
        stand = whole(*calls)
        for v, values in enumerate(stand[0]):
            for name, value in values.items():
                call = write(v, 0, name, value)
                self.assertEqual(ask_last(*calls, call), 0)
                self.assertEqual(whole(*calls, call), stand)


class AtOdds(unittest.TestCase):
    def refused(self, calls, *writes):
        stand = whole(*calls, NEW, NEW, rows=2)
        for call in writes:
            self.assertEqual(ask_last(*calls, NEW, NEW, call), -13, call)
            self.assertEqual(whole(*calls, NEW, NEW, call, rows=2), stand)

    def test_a_number_behind_greater_that_no_number_gives(self):
        for number in (1, 5, 9):
            calls = [come("x", "v"), greater("x", number)]
            taken = "9" * (18 - number)
            self.assertEqual(ask_last(*calls, NEW, write(2, 0, "x", taken)), 2)
            self.refused(calls, write(2, 0, "x", taken + "9"), write(2, 0, "x", "9" * 18))
            self.assertEqual(ask_last(*calls, NEW, write(2, 0, "x", "9" * 19)), 2)

    def test_the_byte_in_b_of_parted(self):
        calls = [come("x", "v-w"), parted("x", "y", "z", 45)]
        self.refused(calls, *[write(2, 0, "y", value) for value in ("-", "a-", "-a", "a-b", "a-b-c")])
        calls = [come("x", "v"), parted("x", "y", "z", 45)]
        self.refused(calls, *[write(2, 0, "y", value) for value in ("-", "a-", "-a", "a-b")])

    def test_another_version_than_the_one_before(self):
        calls = [
            come("x", "v-w"), parted("x", "y", "z", 45), named("y", "p"), come("k", "kept"), turned("p", "q", "a-b"),
        ]
        self.refused(calls, write(5, 0, "p", "q"), write(3, 0, "p", "a-b"), write(5, 0, "p", "c-d"))
        self.assertEqual(ask_last(*calls, NEW, write(5, 0, "p", "a-b")), 5)

    def test_a_number_too_large_two_versions_before(self):
        calls = [come("x", "v"), greater("x", 9), greater("x", 9)]
        self.refused(calls, write(3, 0, "x", "1"), write(2, 0, "x", "1" * 10), write(3, 0, "x", "1" * 10))
        self.assertEqual(ask_last(*calls, NEW, write(3, 0, "x", "0")), 3)
        self.assertEqual(ask_last(*calls, NEW, write(2, 0, "x", "1" * 9)), 3)

    def test_parted_at_a_digit_behind_greater(self):
        calls = [come("x", "12"), greater("x", 1), parted("x", "y", "z", 48)]
        self.refused(calls, write(3, 0, "y", "10"))
        self.assertEqual(ask_last(*calls, NEW, write(3, 0, "z", "5")), 3)

    def test_more_than_64_bytes_in_another_version(self):
        calls = [come("x", "v-" + "w" * 31), parted("x", "y", "z", 45)]
        self.assertEqual(ask_last(*calls, NEW, write(2, 0, "y", "b" * 32)), 2)
        self.refused(calls, write(2, 0, "y", "b" * 33), write(2, 0, "y", "b" * 64))
        self.assertEqual(ask_last(*calls, NEW, write(2, 0, "z", "b" * 62)), 2)
        self.refused(calls, write(2, 0, "z", "b" * 63), write(2, 0, "z", "b" * 64))

    def test_64_bytes_in_b_alone_where_c_is_empty(self):
        calls = [come("x", "v"), parted("x", "y", "z", 45), NEW, write(2, 0, "y", "b" * 64)]
        self.assertEqual(whole(*calls), [[{}, {"x": "b" * 64}, {"y": "b" * 64, "z": ""}]])
        self.assertEqual(ask_last(*calls, write(2, 0, "z", "b")), -13)

    def test_more_than_64_bytes_only_versions_before(self):
        calls = [
            come("x", "a b " + "c" * 30), parted("x", "x", "y", 32), parted("y", "y", "z", 32), come("k", "kept"),
            named("y", "n"),
        ]
        self.assertEqual(ask_last(*calls, NEW, write(5, 0, "n", "d" * 31)), 5)
        self.refused(calls, write(5, 0, "n", "d" * 32), write(5, 0, "n", "d" * 34))

    def test_the_row_is_written_behind_a_refusal_as_if_there_was_none(self):
        calls = [come("x", "v-w"), parted("x", "y", "z", 45), NEW]
        writes = [write(2, 0, "y", "a-b"), write(2, 0, "z", "b" * 64), write(2, 0, "y", "a"), write(3, 0, "y", "")]
        self.assertEqual(ask(START, *calls, *writes)[-4:], [-13, -13, 2, -2])
        self.assertEqual(whole(*calls, *writes), whole(*calls, write(2, 0, "y", "a")))


if __name__ == "__main__":
    unittest.main()
