"""What the tests share: bytes of texts, and a second way, over Python's own texts, to find the answers."""

import functools
import itertools
import re


def octets(text):
    return list(text.encode("utf-8"))


def as_answer(lines):
    found = octets("\n".join(lines))
    return [len(found)] + found


def words(text):
    return [word for word in re.split("[ \t\n\r]+", text) if word]


def positions(patterns, word):
    if not re.fullmatch("[A-Za-z]*", word):
        return []
    dotted = "." + word.lower() + "."
    levels = [0] * (len(dotted) + 1)
    for pattern in words(patterns):
        # Each letter or point with the digit before it; the last one stands for the end.
        places = re.findall("([0-9]?)([a-z.]|$)", pattern)
        letters = "".join(letter for digit, letter in places)
        for start in range(len(dotted)):
            if dotted.startswith(letters, start):
                for k, (digit, letter) in enumerate(places[:len(letters) + 1]):
                    levels[start + k] = max(levels[start + k], int(digit or "0"))
    return [k for k in range(len(word) + 1) if k >= 2 and len(word) - k >= 2 and levels[k + 1] % 2]


def pieces(patterns, text):
    found = []
    for word in words(text):
        parts = re.split("(?<=-)(?=[^-])", word)
        for number, part in enumerate(parts):
            cuts = [0] + positions(patterns, part) + [len(part)]
            for start, end in zip(cuts, cuts[1:]):
                if end < len(part):
                    joint = "hyphen"
                else:
                    joint = "plain" if number + 1 < len(parts) else "space"
                found.append((part[start:end], joint))
    return found


def line(of):
    text = "".join(piece + (" " if joint == "space" else "") for piece, joint in of[:-1]) + of[-1][0]
    return text + "-" if of[-1][1] == "hyphen" else text


def cost(width, of, is_last):
    """The cost of a line, or None if it isn't allowed."""
    length = len(line(of))
    extra = 50 if of[-1][1] == "hyphen" else 0
    if length <= width:
        return extra + (0 if is_last else (width - length) ** 2)
    return extra + 10000 * (length - width) if len(of) == 1 else None


def lines(of, counts):
    ends = list(itertools.accumulate(counts))
    return [line(of[end - count:end]) for end, count in zip(ends, counts)]


def all_divisions(size):
    """Every way to write the size as a sum of numbers from 1 on."""
    if size == 0:
        yield []
    for first in range(1, size + 1):
        for others in all_divisions(size - first):
            yield [first] + others


def division_cost(width, of, counts):
    total = 0
    end = 0
    for count in counts:
        end += count
        own = cost(width, of[end - count:end], end == len(of))
        if own is None:
            return None
        total += own
    return total


def best_of_all(width, of):
    """The best division, found by a look at every one."""
    costs = [(division_cost(width, of, counts), counts) for counts in all_divisions(len(of))]
    allowed = [(total, counts) for total, counts in costs if total is not None]
    least = min(total for total, counts in allowed)
    return max(counts for total, counts in allowed if total == least)


def best(width, of):
    """The best division of many pieces: the least pair of the cost and the numbers, each taken as below zero."""
    @functools.lru_cache(None)
    def behind(start):
        if start == len(of):
            return (0, ())
        found = []
        # No piece is empty, so that lines with more pieces than this aren't allowed.
        for end in range(start + 1, min(len(of), start + width + 1) + 1):
            own = cost(width, of[start:end], end == len(of))
            if own is not None:
                rest, counts = behind(end)
                found.append((own + rest, (start - end,) + counts))
        return min(found)
    for start in range(len(of), -1, -1):
        behind(start)
    return [-count for count in behind(0)[1]]


def broken(width, patterns, text):
    of = pieces(patterns, text)
    return as_answer(lines(of, best(width, of)))


def cost_answer(width, patterns, text):
    of = pieces(patterns, text)
    counts = best(width, of)
    return [division_cost(width, of, counts), len(counts)]


def greedy(width, of):
    """The greedy division, found by a look at every number of pieces that a line could have."""
    counts = []
    while sum(counts) < len(of):
        rest = of[sum(counts):]
        fitting = [count for count in range(1, min(len(rest), width) + 1) if len(line(rest[:count])) <= width]
        counts.append(max(fitting, default=1))
    return counts


def greedy_answer(width, patterns, text):
    of = pieces(patterns, text)
    return as_answer(lines(of, greedy(width, of)))


def cost_of_answer(width, patterns, text, counts):
    of = pieces(patterns, text)
    total = None
    if min(counts, default=1) > 0 and sum(counts) == len(of):
        total = division_cost(width, of, counts)
    return [-33] if total is None else [total]


def justified(width, text_line):
    own = words(text_line)
    if len(own) < 2 or len(" ".join(own)) > width:
        return text_line
    # One more space for one gap after another, until the line has the width.
    gaps = [" "] * (len(own) - 1)
    at = 0
    while len("".join(own + gaps)) < width:
        gaps[at % len(gaps)] += " "
        at += 1
    return "".join(word + gap for word, gap in zip(own, gaps + [""]))


def justify_answer(width, text):
    return as_answer([justified(width, text_line) for text_line in text.split("\n")])
