"""Letters, as bytes and as texts."""

ALPHABET = "abcdefghijklmnopqrstuvwxyz"
BYTE_OF_A = 97
LINE_FEED = 10


def is_letter(byte):
    return BYTE_OF_A <= byte < BYTE_OF_A + len(ALPHABET)


def letters_of(row):
    return "".join([ALPHABET[byte - BYTE_OF_A] for byte in row])


def bytes_of(letters):
    return [ord(letter) for letter in letters]
