"""The notation of a document, read as expressions."""

from plainlayout.characters import BACKSLASH, BLANK, CLOSING_BRACE, CLOSING_PARENTHESIS, DIGIT_0, HYPHEN, LINE_FEED
from plainlayout.characters import OPENING_BRACE, OPENING_PARENTHESIS, QUOTATION_MARK, SEMICOLON, SMALL_A
from plainlayout.characters import is_character, is_digit, is_small_letter, is_white_space
from plainlayout.refusals import NotNotation, NotUtf8
from plainlayout.utf8 import read_utf8

LIST = "list"
STRING = "string"
INTEGER = "integer"
SYMBOL = "symbol"

MOST_LEVELS = 16
MOST_DIGITS = 6

SMALL_F = 102
SMALL_U = 117

# What a sign behind a backslash stands for: " and \\ for themselves, n for a line feed, t for a tab.
ESCAPED = {34: 34, 92: 92, 110: 10, 116: 9}
DIGITS = "0123456789"
SMALL_LETTERS = "abcdefghijklmnopqrstuvwxyz"


class Expression:
    # Its content is the parts of a list, the characters of a string, a number, or the name of a symbol.
    def __init__(self, kind, content):
        self.kind = kind
        self.content = content


def expressions_of(octets):
    # The parts of each list that isn't closed yet, the outermost one first; ahead of them those of the document.
    levels = [[]]
    at = 0
    while at < len(octets):
        code = octets[at]
        if code == OPENING_PARENTHESIS:
            begin_list(levels)
            at += 1
        elif code == CLOSING_PARENTHESIS:
            end_list(levels)
            at += 1
        elif is_white_space(code):
            at += 1
        elif code == SEMICOLON:
            at = comment_end(octets, at)
        else:
            end = atom_end(octets, at)
            levels[-1].append(atom_of(octets[at:end]))
            at = end
    if len(levels) > 1:
        raise NotNotation()
    return levels[0]


def begin_list(levels):
    if len(levels) > MOST_LEVELS:
        raise NotNotation()
    levels.append([])


def end_list(levels):
    if len(levels) == 1:
        raise NotNotation()
    parts = levels.pop()
    levels[-1].append(Expression(LIST, parts))


def comment_end(octets, start):
    at = start
    while at < len(octets) and octets[at] != LINE_FEED:
        at += 1
    return at


def atom_end(octets, start):
    if octets[start] == QUOTATION_MARK:
        return string_end(octets, start)
    at = start
    if is_digit(octets[start]):
        while at < len(octets) and is_digit(octets[at]):
            at += 1
    elif is_small_letter(octets[start]):
        while at < len(octets) and is_symbol_sign(octets[at]):
            at += 1
    else:
        raise NotNotation()
    return at


def string_end(octets, start):
    at = start + 1
    while at < len(octets):
        if octets[at] == QUOTATION_MARK:
            return at + 1
        # What follows a backslash doesn't end the string.
        at += 2 if octets[at] == BACKSLASH else 1
    raise NotNotation()


def is_symbol_sign(code):
    return is_small_letter(code) or is_digit(code) or code == HYPHEN


def atom_of(octets):
    if octets[0] == QUOTATION_MARK:
        return Expression(STRING, string_text(octets[1:-1]))
    if is_digit(octets[0]):
        return Expression(INTEGER, integer_of(octets))
    return Expression(SYMBOL, "".join([symbol_sign(code) for code in octets]))


def integer_of(digits):
    if len(digits) > MOST_DIGITS or digits[0] == DIGIT_0 and len(digits) > 1:
        raise NotNotation()
    number = 0
    for digit in digits:
        number = number * 10 + digit - DIGIT_0
    return number


def symbol_sign(code):
    if is_small_letter(code):
        return SMALL_LETTERS[code - SMALL_A]
    if is_digit(code):
        return DIGITS[code - DIGIT_0]
    return "-"


def string_text(octets):
    try:
        characters = read_utf8(octets)
    except NotUtf8:
        raise NotNotation() from None
    text = []
    at = 0
    while at < len(characters):
        code = characters[at]
        at += 1
        if code < BLANK:
            raise NotNotation()
        if code == BACKSLASH:
            # A string doesn't end behind a backslash, so there is a character.
            size = escape_size(characters, at)
            code = escaped_character(characters[at:at + size])
            at += size
        text.append(code)
    return text


def escape_size(characters, start):
    if characters[start] != SMALL_U:
        return 1
    rest = characters[start:]
    if CLOSING_BRACE not in rest:
        raise NotNotation()
    return rest.index(CLOSING_BRACE) + 1


def escaped_character(sequence):
    # What stands behind the backslash.
    if sequence[0] == SMALL_U:
        return hexadecimal_character(sequence)
    if sequence[0] not in ESCAPED:
        raise NotNotation()
    return ESCAPED[sequence[0]]


def hexadecimal_character(sequence):
    digits = sequence[2:-1]
    if sequence[1] != OPENING_BRACE or not 1 <= len(digits) <= MOST_DIGITS:
        raise NotNotation()
    code = 0
    for digit in digits:
        code = code * 16 + hexadecimal_value(digit)
    if not is_character(code):
        raise NotNotation()
    return code


def hexadecimal_value(digit):
    if is_digit(digit):
        return digit - DIGIT_0
    if SMALL_A <= digit <= SMALL_F:
        return digit - SMALL_A + 10
    raise NotNotation()
