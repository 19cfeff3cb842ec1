"""Inline elements: all that counts of them is their text."""

from plainlayout.characters import CLOSING_BRACKET, LINE_FEED, OPENING_BRACKET, codes_of
from plainlayout.notation import STRING
from plainlayout.parts import Parts
from plainlayout.refusals import NotNotation


def inlines_text(expressions):
    text = []
    for expression in expressions:
        text.extend(inline_text(expression))
    return text


def inline_text(expression):
    if expression.kind == STRING:
        return expression.content
    parts = Parts([expression]).take_list()
    name = parts.take_symbol()
    if name not in INLINES:
        raise NotNotation()
    text = INLINES[name](parts)
    parts.finish()
    return text


def in_brackets(text):
    return [OPENING_BRACKET] + text + [CLOSING_BRACKET]


def literal_text(parts):
    return parts.take_text()


def line_break_text(parts):
    return [LINE_FEED]


def note_reference_text(parts):
    return in_brackets(parts.take_label())


def reference_text(parts):
    return parts.take_label()


def citation_text(parts):
    text = parts.take_label()
    for label in parts.take_labels():
        text = text + codes_of(", ") + label
    return in_brackets(text)


def styled_text(parts):
    return inlines_text(parts.take_rest())


def target_text(parts):
    parts.take_text()
    return inlines_text(parts.take_rest())


def span_text(parts):
    parts.take_classes()
    return inlines_text(parts.take_rest())


INLINES = {
    "code": literal_text,
    "math": literal_text,
    "break": line_break_text,
    "noteref": note_reference_text,
    "ref": reference_text,
    "cite": citation_text,
    "emph": styled_text,
    "strong": styled_text,
    "strike": styled_text,
    "super": styled_text,
    "sub": styled_text,
    "caps": styled_text,
    "link": target_text,
    "image": target_text,
    "span": span_text,
}
