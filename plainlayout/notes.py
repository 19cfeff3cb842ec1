"""The notes of a document, and those that a line refers to."""

from plainlayout.blocks import Note
from plainlayout.characters import CLOSING_BRACKET, OPENING_BRACKET


def notes_of(blocks):
    # In the order of the notation; of several with the same label the first one.
    known = {}
    for note in all_notes(blocks):
        known.setdefault(tuple(note.label), note)
    return list(known.values())


def all_notes(blocks):
    notes = []
    for block in blocks:
        if isinstance(block, Note):
            notes.append(block)
        notes.extend(all_notes(block.inner_blocks()))
    return notes


def notes_of_line(notes, line):
    found = []
    for cell in line.cells:
        named = bracketed(cell)
        found.extend([note for note in notes if tuple(note.label) in named])
    return found


def bracketed(text):
    # A label has no brackets in it, so it is looked for between neighbouring ones only.
    found = {}
    start = None
    for at, code in enumerate(text):
        if code == OPENING_BRACKET:
            start = at + 1
        elif code == CLOSING_BRACKET and start is not None:
            found[tuple(text[start:at])] = True
            start = None
    return found
