"""What holds over the whole program, a to e: each by itself, and all of them on a long walk."""

import random
import unittest

from helper import BACK, HUGE, NEW, START, ask, ask_last, come, field, gone, greater, named, names, parted, read
from helper import turned, whole, write

FIRST = [
    come("x", "1200-ct"), come("k", "kept"), parted("x", "n", "u", 45), greater("n", 2), turned("u", "ct", "eur"),
    named("n", "m"), gone("k"), come("k", "anew"), NEW, NEW,
]

# Fields that changes link stand in one list: version and name.
LINKED = [
    [(1, "x"), (2, "x"), (3, "n"), (3, "u"), (4, "n"), (4, "u"), (5, "n"), (5, "u"), (6, "m"), (6, "u"), (7, "m"),
     (7, "u"), (8, "m"), (8, "u")],
    [(2, "k"), (3, "k"), (4, "k"), (5, "k"), (6, "k")],
    [(8, "k")],
]

VALUES = ("", "0", "7", "1234", "9" * 18, "b", "b" * 64, "ct", "eur", "3-4", "-", "1-2-3")

ONE_MORE = [
    come("z", "v"), gone("m"), named("m", "z"), turned("m", "12", "z"), greater("m", 1), parted("m", "p", "q", 50),
]


class ReadAsWritten(unittest.TestCase):
    def test_in_each_version(self):
        for v, name in [place for places in LINKED for place in places]:
            for value in VALUES:
                told = ask(START, *FIRST, read(v, 0, name), write(v, 0, name, value), read(v, 0, name))
                before, answer, after = told[-3:]
                self.assertEqual(after, value if answer >= 0 else before)
                self.assertIn(answer, [-13] + list(range(9)))

    def test_each_value_in_the_first_version_that_has_the_field(self):
        for v, name in ((1, "x"), (2, "k"), (8, "k")):
            for value in VALUES:
                told = ask(START, *FIRST, write(v, 0, name, value), read(v, 0, name))
                self.assertGreaterEqual(told[-2], 0)
                self.assertEqual(told[-1], value)


class NothingForNothing(unittest.TestCase):
    def test_behind_each_write(self):
        for first in ([], [write(1, 0, "x", "1299-")], [write(6, 0, "m", "0")], [write(8, 0, "u", "")]):
            stand = whole(*FIRST, *first, rows=2)
            for v, values in enumerate(stand[0]):
                for name, value in values.items():
                    self.assertEqual(ask_last(*FIRST, *first, write(v, 0, name, value)), 0)
                    self.assertEqual(whole(*FIRST, *first, write(v, 0, name, value), rows=2), stand)


class EachOthersFields(unittest.TestCase):
    def test_what_is_not_linked_stays(self):
        stand = whole(*FIRST, rows=2)
        for places in LINKED:
            for v, name in places:
                for value in VALUES:
                    after = whole(*FIRST, write(v, 0, name, value), rows=2)
                    self.assertEqual(after[1], stand[1])
                    for others in [others for others in LINKED if others != places]:
                        for w, other in others:
                            self.assertEqual(after[0][w][other], stand[0][w][other])


def parts_of(value, byte):
    before, sign, behind = value.partition(chr(byte))
    return before, behind


def divided(value, number):
    is_plain = value.isascii() and value.isdigit() and len(value) <= 18 and str(int(value)) == value
    return str(int(value) // 10 ** number) if is_plain else value


class AllAgree(unittest.TestCase):
    def agree(self, stand):
        for row in stand:
            zero, one, two, three, four, five, six, seven, eight = row
            self.assertEqual(zero, {})
            self.assertEqual(two, {"x": one["x"], "k": two["k"]})
            n, u = parts_of(two["x"], 45)
            self.assertEqual(three, {"n": n, "u": u, "k": two["k"]})
            self.assertEqual(four, {"n": divided(n, 2), "u": u, "k": two["k"]})
            self.assertEqual(five, dict(four, u={"ct": "eur", "eur": "ct"}.get(u, u)))
            self.assertEqual(six, {"m": five["n"], "u": five["u"], "k": two["k"]})
            self.assertEqual(seven, {"m": five["n"], "u": five["u"]})
            self.assertEqual(eight, {"m": five["n"], "u": five["u"], "k": eight["k"]})

    def test_behind_each_write(self):
        self.agree(whole(*FIRST, rows=2))
        for v, name in [place for places in LINKED for place in places]:
            for value in VALUES:
                self.agree(whole(*FIRST, write(v, 0, name, value), rows=2))

    def test_behind_many_writes(self):
        places = [place for places in LINKED for place in places]
        writes = [write(v, k, name, value) for value in VALUES for k in (0, 1) for v, name in places]
        for count in range(0, len(writes), 19):
            self.agree(whole(*FIRST, *writes[:count], rows=2))


class AVersionMoreAndBackAgain(unittest.TestCase):
    def test_of_each_kind(self):
        for first in ([], [write(1, 0, "x", "1299-")], [write(8, 1, "m", "7"), write(2, 1, "k", "")]):
            stand = whole(*FIRST, *first, rows=2)
            fields = names(*FIRST, *first)
            for change in ONE_MORE:
                self.assertEqual(ask(START, *FIRST, *first, change, BACK)[-2:], [9, 9])
                self.assertEqual(whole(*FIRST, *first, change, BACK, rows=2), stand)
                self.assertEqual(names(*FIRST, *first, change, BACK), fields)

    def test_all_versions_back(self):
        self.assertEqual(whole(*FIRST, *[BACK] * 8, rows=2), [[{}], [{}]])


class Walk(unittest.TestCase):
    """Calls that a seed tells; what is read behind each of them is held against what was read before."""

    names = ("a", "b", "c", "d" * 16)
    texts = ("", "0", "7", "10", "0-0", "1-2-3", "-", "129", "9" * 18, "v" * 33, "v" * 64, "5-", "p", "q")

    def change(self, draw, fields):
        kind = draw.choice((0, 1, 2, 3, 4, 5, 5))
        a = draw.choice(fields) if fields else "a"
        b, c = draw.choice(self.names), draw.choice(self.names)
        turned_texts = draw.sample(("", "0", "7", "p", "q"), 2)
        return (
            come(b, draw.choice(self.texts)), gone(a), named(a, b), turned(a, *turned_texts),
            greater(a, draw.choice((1, 2, 9))), parted(a, b, c, draw.choice((45, 48))),
        )[kind]

    def check_write(self, calls, stand, v, name, value):
        call = write(v, 0, name, value)
        answer = ask_last(*calls, call)
        after = whole(*calls, call, rows=2)
        self.assertEqual(after[1], stand[1])
        differ = len([w for w in range(len(stand[0])) if stand[0][w] != after[0][w]])
        self.assertEqual(differ, max(answer, 0))
        if answer >= 0:
            self.assertEqual(after[0][v][name], value)
        else:
            self.assertEqual(answer, -13)
        if value == stand[0][v][name]:
            self.assertEqual(answer, 0)
        longest = [len(text) for version in after[0] for text in version.values()]
        self.assertLessEqual(max(longest), 64)
        return calls + [call]

    def check_change(self, calls, stand, change):
        answer = ask_last(*calls, change)
        self.assertEqual(whole(*calls, change, rows=2)[0][:len(stand[0])], stand[0])
        if answer < 0:
            self.assertEqual(whole(*calls, change, rows=2), stand)
            return calls
        self.assertEqual(whole(*calls, change, BACK, rows=2), stand)
        return calls + [change]

    def walk(self, draw):
        calls = [NEW, NEW]
        for step in range(30):
            stand = whole(*calls, rows=2)
            places = [(v, name) for v, values in enumerate(stand[0]) for name in values]
            if step % 3 == 0 or not places:
                calls = self.check_change(calls, stand, self.change(draw, names(*calls)[-1]))
            else:
                v, name = draw.choice(places)
                value = draw.choice(self.texts + (stand[0][v][name],) * 2)
                calls = self.check_write(calls, stand, v, name, value)

    def test_seeds(self):
        for seed in range(30):
            with self.subTest(seed=seed):
                self.walk(random.Random(seed))


class Refused(unittest.TestCase):
    def test_nothing_is_changed_where_an_answer_is_below_0(self):
        stand = whole(*FIRST, rows=2)
        for call in (
            read(9, 0, "m"), read(8, 2, "m"), read(8, 0, "n"), write(HUGE, 0, "m", ""), write(8, HUGE, "m", ""),
            write(8, 0, "x", ""), write(8, 0, "m", "b" * 65), write(8, 0, "m", "9" * 18), write(3, 0, "n", "a-b"),
            write(8, 0, "u", "b" * 60), field(9, 0), field(8, 3), field(HUGE, HUGE), come("m"), gone("x"),
            named("m", "u"), turned("m", "p", "p"), greater("m", 10), parted("m", "p", "p", 45),
        ):
            self.assertLess(ask_last(*FIRST, call), 0)
            self.assertEqual(whole(*FIRST, call, rows=2), stand)
            self.assertEqual(names(*FIRST, call), names(*FIRST))


if __name__ == "__main__":
    unittest.main()
