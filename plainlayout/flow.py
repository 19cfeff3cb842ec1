"""Lines of a document, and how the lines of blocks are put together."""

from plainlayout.characters import BLANK, split_at_line_feeds
from plainlayout.justification import justified_line
from plainlayout.lines import best_counts, lines_of, pieces_of

LEAST_INNER_WIDTH = 10


class Setting:
    def __init__(self, patterns, justified):
        self.patterns = patterns
        self.justified = justified


class Line:
    # A page should not end after a kept line. In the cells, one after another, labels of notes are looked for.
    def __init__(self, text, kept, cells):
        self.text = text
        self.kept = kept
        self.cells = cells


def free_line(text):
    return Line(text, False, [text])


def kept_line(text):
    return Line(text, True, [text])


def after_prefix(prefix, line):
    # A prefix can't begin a label in brackets, so the cells stay as they are.
    return Line(prefix + line.text, line.kept, line.cells)


def inner_width(width, less):
    return max(width - less, LEAST_INNER_WIDTH)


def inline_lines(patterns, justified, width, text):
    lines = []
    for part in split_at_line_feeds(text):
        pieces = pieces_of(patterns, part)
        divided = lines_of(pieces, best_counts(width, pieces))
        if justified:
            divided = [justified_line(width, line) for line in divided[:-1]] + divided[-1:]
        lines.extend(divided)
    return lines


def lines_of_blocks(setting, width, blocks):
    lines = []
    for block in blocks:
        own = block.lines_for(setting, width)
        if lines and own:
            lines.append(free_line([]))
        lines.extend(own)
    return lines


def indented_lines(size, lines):
    # Empty lines aren't indented.
    return [after_prefix([BLANK] * size, line) if line.text else line for line in lines]


def marked_lines(setting, width, marker, blocks):
    lines = lines_of_blocks(setting, inner_width(width, len(marker)), blocks)
    if not lines:
        return [free_line(marker)]
    return [after_prefix(marker, lines[0])] + indented_lines(len(marker), lines[1:])
