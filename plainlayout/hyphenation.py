"""Hyphenation patterns, and the positions where they let a word be divided."""

from plainlayout.characters import DIGIT_0, POINT, is_digit, is_letter, is_small_letter, to_small_letter, words_of
from plainlayout.refusals import NotPatterns

# So many letters stay on each side of a division.
LEAST_LETTERS = 2


class Pattern:
    def __init__(self, letters, levels):
        self.letters = letters
        self.levels = levels


def patterns_of(text):
    return [pattern_of(word) for word in words_of(text)]


def pattern_of(word):
    letters = []
    levels = [0]
    after_digit = False
    for code in word:
        if is_digit(code):
            if after_digit:
                raise NotPatterns()
            levels[-1] = code - DIGIT_0
            after_digit = True
        elif is_small_letter(code) or code == POINT:
            letters.append(code)
            levels.append(0)
            after_digit = False
        else:
            raise NotPatterns()
    if not letters:
        raise NotPatterns()
    return Pattern(letters, levels)


def positions_of(patterns, word):
    if not all([is_letter(code) for code in word]):
        return []
    levels = levels_in(patterns, [POINT] + [to_small_letter(code) for code in word] + [POINT])
    # The level after k letters stands one further on, as the word has a point before it.
    return [k for k in range(LEAST_LETTERS, len(word) - LEAST_LETTERS + 1) if levels[k + 1] % 2 == 1]


def levels_in(patterns, dotted):
    levels = [0] * (len(dotted) + 1)
    for pattern in patterns:
        size = len(pattern.letters)
        for start in range(len(dotted) - size + 1):
            if dotted[start:start + size] == pattern.letters:
                for k in range(size + 1):
                    levels[start + k] = max(levels[start + k], pattern.levels[k])
    return levels
