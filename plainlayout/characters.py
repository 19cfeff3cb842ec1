"""Characters as code points, and the words and the lines of a text.

A text is a list of code points throughout the package.
"""

TAB = 9
LINE_FEED = 10
FORM_FEED = 12
CARRIAGE_RETURN = 13
BLANK = 32
QUOTATION_MARK = 34
OPENING_PARENTHESIS = 40
CLOSING_PARENTHESIS = 41
HYPHEN = 45
POINT = 46
DIGIT_0 = 48
DIGIT_9 = 57
SEMICOLON = 59
CAPITAL_A = 65
CAPITAL_Z = 90
OPENING_BRACKET = 91
BACKSLASH = 92
CLOSING_BRACKET = 93
SMALL_A = 97
SMALL_Z = 122
OPENING_BRACE = 123
CLOSING_BRACE = 125

GREATEST_CHARACTER = 0x10FFFF
FIRST_SURROGATE = 0xD800
LAST_SURROGATE = 0xDFFF


def is_character(code):
    return code <= GREATEST_CHARACTER and not FIRST_SURROGATE <= code <= LAST_SURROGATE


def is_white_space(code):
    return code in (BLANK, TAB, LINE_FEED, CARRIAGE_RETURN)


def is_digit(code):
    return DIGIT_0 <= code <= DIGIT_9


def is_capital_letter(code):
    return CAPITAL_A <= code <= CAPITAL_Z


def is_small_letter(code):
    return SMALL_A <= code <= SMALL_Z


def is_letter(code):
    return is_small_letter(code) or is_capital_letter(code)


def to_small_letter(letter):
    if is_capital_letter(letter):
        return letter - CAPITAL_A + SMALL_A
    return letter


def codes_of(letters):
    return [ord(letter) for letter in letters]


def words_of(text):
    words = []
    word = []
    for code in text:
        if not is_white_space(code):
            word.append(code)
        elif word:
            words.append(word)
            word = []
    if word:
        words.append(word)
    return words


def split_at_line_feeds(text):
    parts = [[]]
    for code in text:
        if code == LINE_FEED:
            parts.append([])
        else:
            parts[-1].append(code)
    return parts
