"""The operations: each one takes numbers and lists of bytes and answers a list of numbers."""

from plainlayout.characters import FORM_FEED, LINE_FEED, split_at_line_feeds
from plainlayout.documents import document_of
from plainlayout.flow import Setting, lines_of_blocks
from plainlayout.hyphenation import patterns_of, positions_of
from plainlayout.justification import justified_line
from plainlayout.lines import best_counts, division_cost, greedy_counts, lines_of, pieces_of
from plainlayout.paging import page_lines, pages_of
from plainlayout.refusals import OutOfRange, Refusal
from plainlayout.tables import only_table
from plainlayout.utf8 import read_utf8, write_utf8

LEAST_WIDTH = 10
GREATEST_WIDTH = 80
LEAST_HEIGHT = 4
GREATEST_HEIGHT = 60


def hyphenate(patterns, word):
    try:
        known = patterns_of(read_utf8(patterns))
        positions = positions_of(known, read_utf8(word))
    except Refusal as refusal:
        return [refusal.answer]
    return [len(positions)] + positions


def break_text(width, patterns, text):
    try:
        pieces = checked_pieces(width, patterns, text)
    except Refusal as refusal:
        return [refusal.answer]
    return answer_lines(lines_of(pieces, best_counts(width, pieces)))


def cost(width, patterns, text):
    try:
        pieces = checked_pieces(width, patterns, text)
    except Refusal as refusal:
        return [refusal.answer]
    counts = best_counts(width, pieces)
    return [division_cost(width, pieces, counts), len(counts)]


def greedy_text(width, patterns, text):
    try:
        pieces = checked_pieces(width, patterns, text)
    except Refusal as refusal:
        return [refusal.answer]
    return answer_lines(lines_of(pieces, greedy_counts(width, pieces)))


def cost_of(width, patterns, text, counts):
    try:
        return [division_cost(width, checked_pieces(width, patterns, text), counts)]
    except Refusal as refusal:
        return [refusal.answer]


def justify(width, text):
    try:
        check_width(width)
        lines = split_at_line_feeds(read_utf8(text))
    except Refusal as refusal:
        return [refusal.answer]
    return answer_lines([justified_line(width, line) for line in lines])


def layout(width, justified, patterns, tree):
    try:
        check_width(width)
        check_justified(justified)
        setting = Setting(patterns_of(read_utf8(patterns)), justified == 1)
        blocks = document_of(tree)
    except Refusal as refusal:
        return [refusal.answer]
    return answer_lines([line.text for line in lines_of_blocks(setting, width, blocks)])


def pages(width, height, justified, patterns, tree):
    try:
        divided = checked_pages(width, height, justified, patterns, tree)
    except Refusal as refusal:
        return [refusal.answer]
    lines = []
    for number, page in enumerate(divided):
        if number > 0:
            lines.append([FORM_FEED])
        lines.extend(page_lines(height, page))
    return answer_lines(lines)


def page_counts(width, height, justified, patterns, tree):
    try:
        divided = checked_pages(width, height, justified, patterns, tree)
    except Refusal as refusal:
        return [refusal.answer]
    answer = [len(divided), sum([page.cost for page in divided])]
    for page in divided:
        answer.extend([len(page.body), len(page.foot)])
    return answer


def columns(width, patterns, tree):
    try:
        check_width(width)
        known = patterns_of(read_utf8(patterns))
        table = only_table(document_of(tree))
    except Refusal as refusal:
        return [refusal.answer]
    widths = table.column_widths(known, width)
    return [len(widths)] + widths


def checked_pieces(width, patterns, text):
    # The order of these checks is the order in which errors count.
    check_width(width)
    known = patterns_of(read_utf8(patterns))
    return pieces_of(known, read_utf8(text))


def checked_pages(width, height, justified, patterns, tree):
    check_width(width)
    check_height(height)
    check_justified(justified)
    setting = Setting(patterns_of(read_utf8(patterns)), justified == 1)
    return pages_of(setting, width, height, document_of(tree))


def check_width(width):
    if not LEAST_WIDTH <= width <= GREATEST_WIDTH:
        raise OutOfRange()


def check_height(height):
    if not LEAST_HEIGHT <= height <= GREATEST_HEIGHT:
        raise OutOfRange()


def check_justified(justified):
    if justified not in (0, 1):
        raise OutOfRange()


def answer_lines(lines):
    text = []
    for number, line in enumerate(lines):
        if number > 0:
            text.append(LINE_FEED)
        text.extend(line)
    octets = write_utf8(text)
    return [len(octets)] + octets
