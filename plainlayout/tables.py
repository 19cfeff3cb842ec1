"""Tables: the widths of their columns, and their lines."""

from plainlayout.blocks import Block
from plainlayout.characters import BLANK, HYPHEN, codes_of, split_at_line_feeds, words_of
from plainlayout.flow import Line, free_line, inline_lines, kept_line
from plainlayout.lines import line_text, pieces_of
from plainlayout.refusals import NotFitting

SEPARATOR = " | "
CROSSING = "-+-"


class Table(Block):
    # The rows are lists of the texts of cells.
    def __init__(self, caption, alignments, rows):
        self.caption = caption
        self.alignments = alignments
        self.rows = rows

    def lines_for(self, setting, width):
        widths = self.column_widths(setting.patterns, width)
        lines = []
        for number, row in enumerate(self.rows):
            lines.extend(self.row_lines(setting.patterns, widths, row, number == 0))
            if number == 0:
                lines.append(kept_line(rule_text(widths)))
        texts = inline_lines(setting.patterns, setting.justified, width, self.caption)
        if texts:
            lines.append(free_line([]))
        return lines + [free_line(text) for text in texts]

    def column_widths(self, patterns, width):
        smallest = []
        natural = []
        for column in range(len(self.alignments)):
            cells = [row[column] for row in self.rows]
            smallest.append(max([smallest_width(patterns, cell) for cell in cells]))
            natural.append(max([natural_width(cell) for cell in cells]))
        free = width - sum(smallest) - len(SEPARATOR) * (len(smallest) - 1)
        return widened(smallest, natural, free)

    def row_lines(self, patterns, widths, row, kept):
        cells = [inline_lines(patterns, False, width, cell) for width, cell in zip(widths, row)]
        height = max([len(texts) for texts in cells] + [1])
        lines = []
        for k in range(height):
            texts = [text[k] if k < len(text) else [] for text in cells]
            lines.append(Line(self.row_text(widths, texts), kept, texts))
        return lines

    def row_text(self, widths, texts):
        row = []
        for alignment, width, text in zip(self.alignments, widths, texts):
            if row:
                row.extend(codes_of(SEPARATOR))
            row.extend(aligned(alignment, width, text))
        return without_blanks_at_the_end(row)


def only_table(blocks):
    if len(blocks) != 1 or not isinstance(blocks[0], Table):
        raise NotFitting()
    return blocks[0]


def smallest_width(patterns, cell):
    return max([len(line_text([piece])) for piece in pieces_of(patterns, cell)] + [1])


def natural_width(cell):
    longest = 1
    for part in split_at_line_feeds(cell):
        words = words_of(part)
        longest = max(longest, sum([len(word) for word in words]) + len(words) - 1)
    return longest


def widened(smallest, natural, free):
    widths = list(smallest)
    left = free
    while left > 0:
        missing = [wanted - width for wanted, width in zip(natural, widths)]
        greatest = max(missing)
        if greatest <= 0:
            break
        # Of several columns index finds the first one.
        widths[missing.index(greatest)] += 1
        left -= 1
    return widths


def rule_text(widths):
    text = []
    for width in widths:
        if text:
            text.extend(codes_of(CROSSING))
        text.extend([HYPHEN] * width)
    return text


def aligned(alignment, width, text):
    free = width - len(text)
    before = 0
    if alignment == "center":
        before = free // 2
    elif alignment == "right":
        before = free
    return [BLANK] * before + text + [BLANK] * (free - before)


def without_blanks_at_the_end(text):
    end = len(text)
    while end > 0 and text[end - 1] == BLANK:
        end -= 1
    return text[:end]
