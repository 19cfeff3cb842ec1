"""Lines justified to a width."""

from plainlayout.characters import BLANK, words_of


def justified_line(width, line):
    words = words_of(line)
    gaps = len(words) - 1
    blanks = width - sum([len(word) for word in words])
    if gaps < 1 or blanks < gaps:
        return list(line)
    result = []
    for gap, word in enumerate(words[:-1]):
        result.extend(word)
        size = blanks // gaps
        if gap < blanks % gaps:
            size += 1
        result.extend([BLANK] * size)
    result.extend(words[-1])
    return result
