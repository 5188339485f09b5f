"""Tokens: what stands in a text, one behind another."""

from pilothall.days import day_number, is_day

WORD = 1
NUMBER = 2
DAY = 3
TIME = 4
SIGN = 5
END = 6
NONE = 7

LINE_END = 10
HASH = 35
PERCENT = 37
COMMA = 44
MINUS = 45
POINT = 46
COLON = 58
SEMICOLON = 59
UNDERSCORE = 95

BLANKS = (32, 9, 10, 13)
SIGNS = (44, 59, 58, 37, 45, 40, 41, 47, 43, 61, 42)
LARGE_LETTERS = "ABCDEFGHIJKLMNOPQRSTUVWXYZ"
SMALL_LETTERS = "abcdefghijklmnopqrstuvwxyz"
TENS = (1, 10, 100, 1000, 10000)

MOST_WORD_BYTES = 15
MOST_DIGITS = 9
MOST_DECIMALS = 4


class Token:
    """A token: its form, its first byte's place, the place behind it, its value.

    A word's value is its text, a sign's its byte, a day's its number, a time's its minute of the day,
    a number's all its digits as if there were no point; decimals are how many of them stand behind the point.
    """

    def __init__(self, form, place, behind, value, decimals):
        self.form = form
        self.place = place
        self.behind = behind
        self.value = value
        self.decimals = decimals


def is_digit(byte):
    return 48 <= byte <= 57


def is_letter(byte):
    return 65 <= byte <= 90 or 97 <= byte <= 122


def is_word_byte(byte):
    return is_letter(byte) or is_digit(byte) or byte == UNDERSCORE


def word_sign(byte):
    if is_digit(byte):
        return str(byte - 48)
    if byte == UNDERSCORE:
        return "_"
    if byte <= 90:
        return LARGE_LETTERS[byte - 65]
    return SMALL_LETTERS[byte - 97]


def line_end(told, start):
    place = start
    while place < len(told) and told[place] != LINE_END:
        place += 1
    return place


def skip_blanks(told, start):
    place = start
    while place < len(told):
        if told[place] == HASH:
            place = line_end(told, place)
        elif told[place] in BLANKS:
            place += 1
        else:
            return place
    return place


def word_end(told, start):
    place = start
    while place < len(told) and is_word_byte(told[place]):
        place += 1
    return place


def digits_end(told, start):
    place = start
    while place < len(told) and is_digit(told[place]):
        place += 1
    return place


def digits_value(told, first, behind):
    value = 0
    for place in range(first, behind):
        value = value * 10 + told[place] - 48
    return value


def no_token(place):
    return Token(NONE, place, place, 0, 0)


def word_at(told, place):
    behind = word_end(told, place)
    if behind - place > MOST_WORD_BYTES:
        return no_token(place)
    return Token(WORD, place, behind, "".join([word_sign(byte) for byte in told[place:behind]]), 0)


def has_form(told, place, length, mark, mark_offsets):
    """Do so many bytes begin there, digits all but for the mark at those offsets?"""
    if place + length > len(told):
        return False
    for offset in range(length):
        byte = told[place + offset]
        if offset in mark_offsets:
            if byte != mark:
                return False
        elif not is_digit(byte):
            return False
    return True


def day_at(told, place):
    year = digits_value(told, place, place + 4)
    month = digits_value(told, place + 5, place + 7)
    day = digits_value(told, place + 8, place + 10)
    if not is_day(year, month, day):
        return no_token(place)
    return Token(DAY, place, place + 10, day_number(year, month, day), 0)


def time_at(told, place):
    hour = digits_value(told, place, place + 2)
    minute = digits_value(told, place + 3, place + 5)
    if hour > 23 or minute > 59:
        return no_token(place)
    return Token(TIME, place, place + 5, hour * 60 + minute, 0)


def number_at(told, place):
    behind = digits_end(told, place)
    if behind - place > MOST_DIGITS:
        return no_token(place)
    value = digits_value(told, place, behind)
    decimals = 0
    if behind + 1 < len(told) and told[behind] == POINT and is_digit(told[behind + 1]):
        first = behind + 1
        behind = digits_end(told, first)
        decimals = behind - first
        if decimals > MOST_DECIMALS:
            return no_token(place)
        value = value * TENS[decimals] + digits_value(told, first, behind)
    return Token(NUMBER, place, behind, value, decimals)


def figure_at(told, place):
    """What begins with a digit: a day, a time or a number."""
    if has_form(told, place, 10, MINUS, (4, 7)):
        token = day_at(told, place)
    elif has_form(told, place, 5, COLON, (2,)):
        token = time_at(told, place)
    else:
        token = number_at(told, place)
    if token.form != NONE and token.behind < len(told) and is_word_byte(told[token.behind]):
        return no_token(place)
    return token


def token_at(told, start):
    """The first token from that place on; END where the text ends, NONE for what is no token."""
    place = skip_blanks(told, start)
    if place == len(told):
        return Token(END, place, place, 0, 0)
    byte = told[place]
    if is_letter(byte):
        return word_at(told, place)
    if is_digit(byte):
        return figure_at(told, place)
    if byte in SIGNS:
        return Token(SIGN, place, place + 1, byte, 0)
    return no_token(place)
