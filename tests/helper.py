"""Calls in numbers, and their answers call by call."""

from shapeshift.store import answers

START = [0]
BACK = [2]
NEW = [3]

HUGE = 2 ** 63 - 1


def row(text):
    return list(text.encode("latin-1")) if isinstance(text, str) else list(text)


def counted(text):
    return [len(row(text))] + row(text)


def change(kind, a="", b="", c="", value="", number=0):
    return [1, kind, number] + counted(a) + counted(b) + counted(c) + counted(value)


def come(a, value=""):
    return change(0, a, value=value)


def gone(a):
    return change(1, a)


def named(a, b):
    return change(2, a, b)


def turned(a, b, c):
    return change(3, a, b, c)


def greater(a, number):
    return change(4, a, number=number)


def parted(a, b, c, byte):
    return change(5, a, b, c, number=byte)


def in_numbers(calls):
    return [number for call in calls for number in call]


def parts(given):
    told = []
    while given:
        told.append(given[1:1 + given[0]])
        given = given[1 + given[0]:]
    return told


def ask(*calls):
    """The number that each call answers; every one of them is told in form 0."""
    told = parts(answers(in_numbers(calls)))
    for answer in told:
        assert len(answer) == 2 and answer[0] == 0, answer
    return [answer[1] for answer in told]


def ask_last(*calls):
    return ask(START, *calls)[-1]
