"""Documents: the blocks that the expressions of the notation stand for."""

from plainlayout.blocks import BulletList, Entry, Figure, Group, Heading, Note, NumberedList, Paragraph, Preformatted
from plainlayout.blocks import Quote, Rule, TermList
from plainlayout.inlines import inlines_text
from plainlayout.notation import expressions_of
from plainlayout.parts import Parts
from plainlayout.refusals import NotNotation
from plainlayout.tables import Table

LEAST_LEVEL = 1
GREATEST_LEVEL = 6
LEAST_NUMBER = 0
GREATEST_NUMBER = 999999
ALIGNMENTS = ("none", "left", "center", "right")


def document_of(octets):
    return blocks_of(expressions_of(octets))


def blocks_of(expressions):
    return [block_of(expression) for expression in expressions]


def block_of(expression):
    parts = Parts([expression]).take_list()
    name = parts.take_symbol()
    if name not in BLOCKS:
        raise NotNotation()
    block = BLOCKS[name](parts)
    parts.finish()
    return block


def rest_text(parts):
    return inlines_text(parts.take_rest())


def rest_blocks(parts):
    return blocks_of(parts.take_rest())


def paragraph_of(parts):
    return Paragraph(rest_text(parts))


def heading_of(parts):
    level = parts.take_integer(LEAST_LEVEL, GREATEST_LEVEL)
    parts.take_identifier()
    return Heading(level, rest_text(parts))


def preformatted_of(parts):
    # The language of a code or the identifier of a formula isn't shown.
    parts.take_identifier()
    return Preformatted(parts.take_text())


def rule_of(parts):
    return Rule()


def quote_of(parts):
    return Quote(rest_blocks(parts))


def bullet_list_of(parts):
    return BulletList(items_of(parts))


def numbered_list_of(parts):
    first = parts.take_integer(LEAST_NUMBER, GREATEST_NUMBER)
    return NumberedList(first, items_of(parts))


def items_of(parts):
    contents = [rest_blocks(parts.take_named("item"))]
    while parts.has_more():
        contents.append(rest_blocks(parts.take_named("item")))
    return contents


def term_list_of(parts):
    entries = [entry_of(parts.take_named("term"))]
    while parts.has_more():
        entries.append(entry_of(parts.take_named("term")))
    return TermList(entries)


def entry_of(parts):
    term = rest_text(parts.take_list())
    return Entry(term, rest_blocks(parts))


def table_of(parts):
    parts.take_identifier()
    caption = rest_text(parts.take_named("caption"))
    alignments = alignments_of(parts.take_named("align"))
    rows = [row_of(parts.take_named("row"), len(alignments))]
    while parts.has_more():
        rows.append(row_of(parts.take_named("row"), len(alignments)))
    return Table(caption, alignments, rows)


def alignments_of(parts):
    alignments = [alignment_of(parts)]
    while parts.has_more():
        alignments.append(alignment_of(parts))
    return alignments


def alignment_of(parts):
    name = parts.take_symbol()
    if name not in ALIGNMENTS:
        raise NotNotation()
    return name


def row_of(parts, size):
    cells = []
    while parts.has_more():
        cells.append(rest_text(parts.take_named("cell")))
    if len(cells) != size:
        raise NotNotation()
    return cells


def figure_of(parts):
    parts.take_identifier()
    target = parts.take_text()
    has_caption = parts.has_more()
    return Figure(target, has_caption, rest_text(parts))


def group_of(parts):
    parts.take_classes()
    return Group(rest_blocks(parts))


def note_of(parts):
    label = parts.take_label()
    return Note(label, rest_blocks(parts))


BLOCKS = {
    "para": paragraph_of,
    "heading": heading_of,
    "code": preformatted_of,
    "formula": preformatted_of,
    "rule": rule_of,
    "quote": quote_of,
    "bullets": bullet_list_of,
    "numbers": numbered_list_of,
    "terms": term_list_of,
    "table": table_of,
    "figure": figure_of,
    "group": group_of,
    "note": note_of,
}
