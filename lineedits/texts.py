"""Texts, told as bytes."""

from lineedits.letters import LINE_FEED, bytes_of, is_letter, letters_of
from lineedits.refusals import NotToldRightly

MOST_LETTERS = 16
MOST_LINES = 24


def lines_of(row):
    lines = []
    start = 0
    for place, byte in enumerate(row):
        if byte == LINE_FEED:
            lines.append(letters_told(row[start:place]))
            start = place + 1
    if start < len(row) or len(lines) > MOST_LINES:
        raise NotToldRightly()
    return lines


def letters_told(row):
    if len(row) > MOST_LETTERS or not all([is_letter(byte) for byte in row]):
        raise NotToldRightly()
    return letters_of(row)


def told_as_bytes(lines):
    told = []
    for line in lines:
        told.extend(bytes_of(line))
        told.append(LINE_FEED)
    return told
