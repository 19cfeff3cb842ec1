"""The operations: each one takes numbers and lists of bytes and answers a list of numbers."""

from plainlayout.characters import LINE_FEED, split_at_line_feeds
from plainlayout.hyphenation import patterns_of, positions_of
from plainlayout.justification import justified_line
from plainlayout.lines import best_counts, division_cost, greedy_counts, lines_of, pieces_of
from plainlayout.refusals import OutOfRange, Refusal
from plainlayout.utf8 import read_utf8, write_utf8

LEAST_WIDTH = 10
GREATEST_WIDTH = 80


def hyphenate(patterns, word):
    try:
        known = patterns_of(read_utf8(patterns))
        positions = positions_of(known, read_utf8(word))
    except Refusal as refusal:
        return [refusal.answer]
    return [len(positions)] + positions


def break_text(width, patterns, text):
    try:
        pieces = checked_pieces(width, patterns, text)
    except Refusal as refusal:
        return [refusal.answer]
    return answer_lines(lines_of(pieces, best_counts(width, pieces)))


def cost(width, patterns, text):
    try:
        pieces = checked_pieces(width, patterns, text)
    except Refusal as refusal:
        return [refusal.answer]
    counts = best_counts(width, pieces)
    return [division_cost(width, pieces, counts), len(counts)]


def greedy_text(width, patterns, text):
    try:
        pieces = checked_pieces(width, patterns, text)
    except Refusal as refusal:
        return [refusal.answer]
    return answer_lines(lines_of(pieces, greedy_counts(width, pieces)))


def cost_of(width, patterns, text, counts):
    try:
        return [division_cost(width, checked_pieces(width, patterns, text), counts)]
    except Refusal as refusal:
        return [refusal.answer]


def justify(width, text):
    try:
        check_width(width)
        lines = split_at_line_feeds(read_utf8(text))
    except Refusal as refusal:
        return [refusal.answer]
    return answer_lines([justified_line(width, line) for line in lines])


def checked_pieces(width, patterns, text):
    # The order of these checks is the order in which errors count.
    check_width(width)
    known = patterns_of(read_utf8(patterns))
    return pieces_of(known, read_utf8(text))


def check_width(width):
    if not LEAST_WIDTH <= width <= GREATEST_WIDTH:
        raise OutOfRange()


def answer_lines(lines):
    text = []
    for number, line in enumerate(lines):
        if number > 0:
            text.append(LINE_FEED)
        text.extend(line)
    octets = write_utf8(text)
    return [len(octets)] + octets
