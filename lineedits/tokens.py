"""The tokens of a script."""

from lineedits.faults import NO_TOKEN, Fault
from lineedits.letters import LINE_FEED, is_letter, letters_of

# What a token is: one of the script's own (its words, the sign, the end),
# letters, or a number.
OWN = "own"
LETTERS = "letters"
NUMBER = "number"

SIGN = ";"
# No word is without letters, so this can't be mistaken for one.
END = ""

OWN_WORDS = (
    "if", "all", "line", "from", "to", "last", "has", "is", "not",
    "delete", "before", "after", "change", "swap", "first",
    "keep", "bring", "trade", "skip", "stop", "none",
)

MOST_LETTERS = 8
GREATEST_NUMBER = 1000000000
MOST_DIGITS = 10

TAB = 9
BLANK = 32
REMARK = 35
DIGIT_ZERO = 48
DIGIT_NINE = 57
SEMICOLON = 59


class Token:
    def __init__(self, kind, value, place, behind):
        self.kind = kind
        self.value = value
        self.place = place
        self.behind = behind


def tokens_of(script):
    tokens = []
    place = behind_blanks(script, 0)
    while place < len(script):
        token = token_at(script, place)
        tokens.append(token)
        place = behind_blanks(script, token.behind)
    tokens.append(Token(OWN, END, place, place))
    return tokens


def behind_blanks(script, place):
    in_remark = False
    while place < len(script):
        byte = script[place]
        if byte == LINE_FEED:
            in_remark = False
        elif byte == REMARK:
            in_remark = True
        elif not in_remark and byte != BLANK and byte != TAB:
            return place
        place += 1
    return place


def token_at(script, place):
    byte = script[place]
    if is_letter(byte):
        return word_at(script, place)
    if is_digit(byte):
        return number_at(script, place)
    if byte == SEMICOLON:
        return Token(OWN, SIGN, place, place + 1)
    raise Fault(NO_TOKEN, place)


def is_digit(byte):
    return DIGIT_ZERO <= byte <= DIGIT_NINE


def behind_all(script, place, belongs):
    while place < len(script) and belongs(script[place]):
        place += 1
    return place


def word_at(script, place):
    behind = behind_all(script, place, is_letter)
    if behind - place > MOST_LETTERS:
        raise Fault(NO_TOKEN, place)
    word = letters_of(script[place:behind])
    return Token(OWN if word in OWN_WORDS else LETTERS, word, place, behind)


def number_at(script, place):
    behind = behind_all(script, place, is_digit)
    size = behind - place
    # The digits are counted first, so that no endless number is worked out.
    if size > MOST_DIGITS or (size > 1 and script[place] == DIGIT_ZERO):
        raise Fault(NO_TOKEN, place)
    number = 0
    for byte in script[place:behind]:
        number = number * 10 + byte - DIGIT_ZERO
    if number > GREATEST_NUMBER:
        raise Fault(NO_TOKEN, place)
    return Token(NUMBER, number, place, behind)
