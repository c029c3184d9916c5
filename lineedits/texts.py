"""Texts, told as bytes."""

from lineedits.letters import LINE_FEED, is_letter, letters_of
from lineedits.refusals import NotToldRightly

MOST_LETTERS = 16
MOST_LINES = 24


def lines_of(row):
    lines = []
    start = 0
    for place, byte in enumerate(row):
        if byte == LINE_FEED:
            lines.append(line_of(row[start:place]))
            start = place + 1
    if start < len(row) or len(lines) > MOST_LINES:
        raise NotToldRightly()
    return lines


def line_of(row):
    if len(row) > MOST_LETTERS or not all([is_letter(byte) for byte in row]):
        raise NotToldRightly()
    return letters_of(row)
