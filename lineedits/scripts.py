"""The commands of a script."""

from lineedits.faults import NOT_ALLOWED, OUT_OF_BOUNDS, TOO_LONG, TOO_MANY, Fault
from lineedits.tokens import END, LETTERS, NUMBER, OWN, SIGN, tokens_of

MOST_BYTES = 4096
MOST_COMMANDS = 16
MOST_NOTS = 3
GREATEST_LINE = 99
GREATEST_SKIP = 9

LETTERS_OR_NONE = "letters or none"

ADDRESSES = ("all", "line", "from", "last", "has", "is")

# What is due behind each deed's word.
DEEDS = {
    "delete": (),
    "before": (LETTERS,),
    "after": (LETTERS,),
    "change": (LETTERS,),
    "swap": (LETTERS, LETTERS_OR_NONE),
    "first": (LETTERS, LETTERS_OR_NONE),
    "keep": (),
    "bring": (),
    "trade": (),
    "skip": (NUMBER,),
    "stop": (),
}


# An address and a deed are tuples: the word, then what stands behind it.
# wanted tells whether the address is to hold or not to hold.
class Command:
    def __init__(self, wanted, address, deed):
        self.wanted = wanted
        self.address = address
        self.deed = deed


# The end is never taken, so there is always a token that stands here.
class Reader:
    def __init__(self, tokens):
        self.tokens = tokens
        self.at = 0

    def here(self):
        return self.tokens[self.at]

    def stands(self, value):
        token = self.here()
        return token.kind == OWN and token.value == value

    def refuse(self, code):
        raise Fault(code, self.here().place)

    def take(self):
        token = self.here()
        self.at += 1
        return token.value

    def take_own(self, value):
        if not self.stands(value):
            self.refuse(NOT_ALLOWED)
        return self.take()

    def take_one_of(self, choices):
        if self.here().kind != OWN or self.here().value not in choices:
            self.refuse(NOT_ALLOWED)
        return self.take()

    def take_letters(self):
        if self.here().kind != LETTERS:
            self.refuse(NOT_ALLOWED)
        return self.take()

    def take_number(self, least, greatest):
        if self.here().kind != NUMBER:
            self.refuse(NOT_ALLOWED)
        if not least <= self.here().value <= greatest:
            self.refuse(OUT_OF_BOUNDS)
        return self.take()


def commands_of(script):
    if len(script) > MOST_BYTES:
        raise Fault(TOO_LONG, MOST_BYTES)
    reader = Reader(tokens_of(script))
    commands = []
    while not reader.stands(END):
        if len(commands) == MOST_COMMANDS:
            reader.refuse(TOO_MANY)
        commands.append(read_command(reader))
    return commands


def read_command(reader):
    wanted = True
    address = ("all",)
    if reader.stands("if"):
        reader.take()
        wanted = read_nots(reader) % 2 == 0
        address = read_address(reader)
    deed = read_deed(reader)
    reader.take_own(SIGN)
    return Command(wanted, address, deed)


def read_nots(reader):
    nots = 0
    while reader.stands("not"):
        if nots == MOST_NOTS:
            reader.refuse(TOO_MANY)
        reader.take()
        nots += 1
    return nots


def read_address(reader):
    word = reader.take_one_of(list(ADDRESSES))
    if word == "line":
        return (word, reader.take_number(1, GREATEST_LINE))
    if word == "from":
        least = reader.take_number(1, GREATEST_LINE)
        reader.take_own("to")
        return (word, least, reader.take_number(least, GREATEST_LINE))
    if word in ("has", "is"):
        return (word, reader.take_letters())
    return (word,)


def read_deed(reader):
    word = reader.take_one_of(list(DEEDS))
    deed = [word]
    for due in DEEDS[word]:
        deed.append(read_due(reader, due))
    return tuple(deed)


def read_due(reader, due):
    if due == NUMBER:
        return reader.take_number(1, GREATEST_SKIP)
    if due == LETTERS_OR_NONE and reader.stands("none"):
        reader.take()
        return ""
    return reader.take_letters()
