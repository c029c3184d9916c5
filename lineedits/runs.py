"""How a script runs over the lines of a text."""

from lineedits.refusals import TooMuch
from lineedits.texts import MOST_LETTERS

MOST_LINES_COMING = 60


# What becomes of one line: the line as it was found and as it is by now,
# what is put ahead of it and behind it, and the held line by now.
class Passage:
    def __init__(self, number, found, held):
        self.number = number
        self.found = found
        self.line = found
        self.held = held
        self.ahead = []
        self.behind = []
        self.stays = True

    def is_as_found(self):
        return self.stays and self.line == self.found

    def is_changed(self):
        return self.stays and self.line != self.found

    def lines_coming(self):
        return self.ahead + ([self.line] if self.stays else []) + self.behind


def run(commands, lines):
    passages = []
    held = ""
    for number, line in enumerate(lines, start=1):
        passage = Passage(number, line, held)
        go_through(commands, passage, len(lines))
        passages.append(passage)
        held = passage.held
    if len(result_of(passages)) > MOST_LINES_COMING:
        raise TooMuch()
    return passages


def result_of(passages):
    lines = []
    for passage in passages:
        lines.extend(passage.lines_coming())
    return lines


# None stands for too much, so that two runs that are too much come to the same.
def outcome_of(commands, lines):
    try:
        return result_of(run(commands, lines))
    except TooMuch:
        return None


def go_through(commands, passage, last):
    at = 0
    while at < len(commands):
        command = commands[at]
        at += 1
        if holds(command.address, passage, last) == command.wanted:
            word = command.deed[0]
            if word == "skip":
                at += command.deed[1]
            elif word == "stop":
                return
            elif word == "delete":
                passage.stays = False
                return
            else:
                do(command.deed, passage)


def holds(address, passage, last):
    word = address[0]
    if word == "line":
        return passage.number == address[1]
    if word == "from":
        return address[1] <= passage.number <= address[2]
    if word == "last":
        return passage.number == last
    if word == "has":
        return address[1] in passage.line
    if word == "is":
        return passage.line == address[1]
    return True


def do(deed, passage):
    word = deed[0]
    if word == "before":
        passage.ahead.append(deed[1])
    elif word == "after":
        passage.behind.append(deed[1])
    elif word == "bring":
        passage.behind.append(passage.held)
    elif word == "keep":
        passage.held = passage.line
    elif word == "trade":
        held = passage.held
        passage.held = passage.line
        passage.line = held
    elif word == "change":
        passage.line = deed[1]
    elif word == "swap":
        passage.line = not_too_long(passage.line.replace(deed[1], deed[2]))
    elif word == "first":
        passage.line = not_too_long(passage.line.replace(deed[1], deed[2], 1))


# Looked at right behind the deed: a line that gets shorter or goes later on
# was too much all the same.
def not_too_long(line):
    if len(line) > MOST_LETTERS:
        raise TooMuch()
    return line
