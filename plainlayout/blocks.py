"""The blocks of a document but for tables, and the lines of each."""

from plainlayout.characters import BLANK, HYPHEN, codes_of, split_at_line_feeds
from plainlayout.flow import after_prefix, free_line, indented_lines, inline_lines, inner_width, kept_line
from plainlayout.flow import lines_of_blocks, marked_lines
from plainlayout.inlines import in_brackets

EQUALS_SIGN = 61

PREFORMATTED_INDENT = 4
TERM_INDENT = 4
QUOTE_MARKER = "> "
EMPTY_QUOTE_LINE = ">"
BULLET = "- "


class Block:
    # A block has no lines and no blocks within it unless it tells others.
    def lines_for(self, setting, width):
        return []

    def inner_blocks(self):
        return []


class Paragraph(Block):
    def __init__(self, text):
        self.text = text

    def lines_for(self, setting, width):
        texts = inline_lines(setting.patterns, setting.justified, width, self.text)
        if len(texts) == 1:
            return [free_line(texts[0])]
        lines = []
        for number, text in enumerate(texts):
            is_kept = number in (0, len(texts) - 2)
            lines.append(kept_line(text) if is_kept else free_line(text))
        return lines


class Heading(Block):
    def __init__(self, level, text):
        self.level = level
        self.text = text

    def lines_for(self, setting, width):
        texts = inline_lines(setting.patterns, False, width, self.text)
        longest = max([len(text) for text in texts], default=0)
        if self.level == 1:
            texts.append([EQUALS_SIGN] * longest)
        elif self.level == 2:
            texts.append([HYPHEN] * longest)
        return [kept_line(text) for text in texts]


class Preformatted(Block):
    # A code or a formula.
    def __init__(self, text):
        self.text = text

    def lines_for(self, setting, width):
        if not self.text:
            return []
        texts = []
        for line in split_at_line_feeds(self.text):
            texts.extend(equal_parts(inner_width(width, PREFORMATTED_INDENT), line))
        return indented_lines(PREFORMATTED_INDENT, [free_line(text) for text in texts])


class Rule(Block):
    def lines_for(self, setting, width):
        return [free_line([HYPHEN] * width)]


class Quote(Block):
    def __init__(self, blocks):
        self.blocks = blocks

    def lines_for(self, setting, width):
        inner = lines_of_blocks(setting, inner_width(width, len(QUOTE_MARKER)), self.blocks)
        lines = []
        for line in inner:
            prefix = QUOTE_MARKER if line.text else EMPTY_QUOTE_LINE
            lines.append(after_prefix(codes_of(prefix), line))
        return lines

    def inner_blocks(self):
        return self.blocks


class BulletList(Block):
    # Its contents are the blocks of one item after another.
    def __init__(self, contents):
        self.contents = contents

    def lines_for(self, setting, width):
        lines = []
        for blocks in self.contents:
            lines.extend(marked_lines(setting, width, codes_of(BULLET), blocks))
        return lines

    def inner_blocks(self):
        return together(self.contents)


class NumberedList(Block):
    def __init__(self, first, contents):
        self.first = first
        self.contents = contents

    def lines_for(self, setting, width):
        size = len(str(self.first + len(self.contents) - 1))
        lines = []
        for number, blocks in enumerate(self.contents, start=self.first):
            marker = str(number).rjust(size) + ". "
            lines.extend(marked_lines(setting, width, codes_of(marker), blocks))
        return lines

    def inner_blocks(self):
        return together(self.contents)


class Entry:
    def __init__(self, term, blocks):
        self.term = term
        self.blocks = blocks


class TermList(Block):
    def __init__(self, entries):
        self.entries = entries

    def lines_for(self, setting, width):
        lines = []
        for entry in self.entries:
            texts = inline_lines(setting.patterns, False, width, entry.term)
            lines.extend([kept_line(text) for text in texts])
            inner = lines_of_blocks(setting, inner_width(width, TERM_INDENT), entry.blocks)
            lines.extend(indented_lines(TERM_INDENT, inner))
        return lines

    def inner_blocks(self):
        return together([entry.blocks for entry in self.entries])


class Figure(Block):
    def __init__(self, target, has_caption, caption):
        self.target = target
        self.has_caption = has_caption
        self.caption = caption

    def lines_for(self, setting, width):
        shown = in_brackets(self.target)
        first = kept_line(shown) if self.has_caption else free_line(shown)
        texts = inline_lines(setting.patterns, setting.justified, width, self.caption)
        return [first] + [free_line(text) for text in texts]


class Group(Block):
    def __init__(self, blocks):
        self.blocks = blocks

    def lines_for(self, setting, width):
        return lines_of_blocks(setting, width, self.blocks)

    def inner_blocks(self):
        return self.blocks


class Note(Block):
    def __init__(self, label, blocks):
        self.label = label
        self.blocks = blocks

    def inner_blocks(self):
        return self.blocks

    def foot_texts(self, setting, width):
        marker = in_brackets(self.label) + [BLANK]
        return [line.text for line in marked_lines(setting, width, marker, self.blocks)]


def equal_parts(size, line):
    if not line:
        return [[]]
    return [line[start:start + size] for start in range(0, len(line), size)]


def together(contents):
    result = []
    for blocks in contents:
        result.extend(blocks)
    return result
