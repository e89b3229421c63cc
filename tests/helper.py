"""Calls in numbers, and their answers call by call."""

from shapeshift.store import answers

START = [0]
BACK = [2]
NEW = [3]

HUGE = 2 ** 63 - 1


def row(text):
    return list(text.encode("latin-1")) if isinstance(text, str) else list(text)


def counted(text):
    return [len(row(text))] + row(text)


def change(kind, a="", b="", c="", value="", number=0):
    return [1, kind, number] + counted(a) + counted(b) + counted(c) + counted(value)


def come(a, value=""):
    return change(0, a, value=value)


def gone(a):
    return change(1, a)


def named(a, b):
    return change(2, a, b)


def turned(a, b, c):
    return change(3, a, b, c)


def greater(a, number):
    return change(4, a, number=number)


def parted(a, b, c, byte):
    return change(5, a, b, c, number=byte)


def read(v, number, f):
    return [4, v, number] + counted(f)


def write(v, number, f, b):
    return [5, v, number] + counted(f) + counted(b)


def field(v, k):
    return [6, v, k]


def in_numbers(calls):
    return [number for call in calls for number in call]


def parts(given):
    told = []
    while given:
        told.append(given[1:1 + given[0]])
        given = given[1 + given[0]:]
    return told


def plain(answer):
    """The number of form 0, or the text of form 1."""
    if answer[0] == 0:
        assert len(answer) == 2, answer
        return answer[1]
    assert answer[0] == 1 and answer[1] == len(answer) - 2, answer
    return bytes(answer[2:]).decode("latin-1")


def ask(*calls):
    """What each call answers: a number or a text."""
    return [plain(answer) for answer in parts(answers(in_numbers(calls)))]


def ask_last(*calls):
    return ask(START, *calls)[-1]


def names(*calls):
    """The names of each version's fields, in their order, behind the calls."""
    versions = max(ask_last(*calls, BACK) + 1, 1)
    told = ask(START, *calls, *[field(v, k) for v in range(versions) for k in range(16)])[-16 * versions:]
    return [[name for name in told[16 * v:16 * v + 16] if name != -2] for v in range(versions)]


def whole(*calls, rows=1):
    """Of each row, in each version, what each field has, behind the calls."""
    fields = names(*calls)
    places = [(number, v, name) for number in range(rows) for v in range(len(fields)) for name in fields[v]]
    told = ask(START, *calls, *[read(v, number, name) for number, v, name in places])[1 + len(calls):]
    stand = [[{} for version in fields] for number in range(rows)]
    for (number, v, name), value in zip(places, told):
        stand[number][v][name] = value
    return stand
