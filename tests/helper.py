"""Calls told in short, and answers taken apart again."""

from lineedits.edits import answers
from lineedits.sessions import Session


def row(told):
    """A text or a list of bytes, with how many there are before it."""
    numbers = [ord(sign) for sign in told] if isinstance(told, str) else list(told)
    return [len(numbers)] + numbers


def text(*lines):
    return "".join(line + "\n" for line in lines)


def load(*lines):
    return load_told(text(*lines))


def load_told(told):
    return [0] + row(told)


def apply(script):
    return [1] + row(script)


def dry(script):
    return [2] + row(script)


def undo():
    return [3]


def redo():
    return [4]


def shown():
    return [5]


def origins():
    return [6]


def same(a, b):
    return [7] + row(a) + row(b)


def guard(letters):
    return [8] + row(letters)


def history():
    return [9]


def taken_apart(answered):
    parts = []
    at = 0
    while at < len(answered):
        size = answered[at]
        parts.append(answered[at + 1:at + 1 + size])
        at += 1 + size
    return parts


def told(*calls):
    """The answers to these calls on one new object, each as a list."""
    return taken_apart(answers([number for call in calls for number in call]))


def session(lines, *scripts):
    """An object on which each of these scripts was applied."""
    made = Session()
    made.load(row(text(*lines))[1:])
    for script in scripts:
        made.apply(row(script)[1:])
    return made


def lines_after(lines, *scripts):
    return session(lines, *scripts).now().lines


def origins_after(lines, *scripts):
    return session(lines, *scripts).now().origins
