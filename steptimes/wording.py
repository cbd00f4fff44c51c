"""The words of a net's text, each a tuple of bytes."""

LINE_END = 10
BLANK = 32
HASH = 35
ZERO = 48
NINE = 57
STEP_WORD = (115, 116, 101, 112)
LIMIT_WORD = (108, 105, 109, 105, 116)
NATURE_WORD = (110, 97, 116, 117, 114, 101)
MISSING_WORD = (45,)
LONGEST_NAME = 8
MOST_TICKS = 1000
MOST_DIGITS = 4


def split_at(row, mark):
    """The parts of a row before, between and behind the marks."""
    parts = []
    part = []
    for byte in row:
        if byte == mark:
            parts.append(tuple(part))
            part = []
        else:
            part.append(byte)
    parts.append(tuple(part))
    return parts


def is_letter(byte):
    return 65 <= byte <= 90 or 97 <= byte <= 122


def is_digit(byte):
    return ZERO <= byte <= NINE


def is_name(word):
    if not 1 <= len(word) <= LONGEST_NAME:
        return False
    return is_letter(word[0]) and all([is_letter(byte) or is_digit(byte) for byte in word])


def is_ticks(word):
    # The length is asked first, so that no long row of digits is ever reckoned.
    if not 1 <= len(word) <= MOST_DIGITS or not all([is_digit(byte) for byte in word]):
        return False
    if len(word) > 1 and word[0] == ZERO:
        return False
    return ticks_of(word) <= MOST_TICKS


def is_ticks_or_missing(word):
    return word == MISSING_WORD or is_ticks(word)


def ticks_of(word):
    """The number that a word tells; None if it tells that there's none."""
    if word == MISSING_WORD:
        return None
    ticks = 0
    for byte in word:
        ticks = 10 * ticks + byte - ZERO
    return ticks


def word_of(ticks):
    """The word that tells a number, or that there's none."""
    if ticks is None:
        return MISSING_WORD
    return tuple([ord(digit) for digit in str(ticks)])
