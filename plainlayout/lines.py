"""Pieces of a text, and their divisions into lines."""

from plainlayout.characters import BLANK, HYPHEN, words_of
from plainlayout.division import best_division, filling_cost
from plainlayout.hyphenation import positions_of
from plainlayout.refusals import NotFitting

SPACE_JOINT = "space"
PLAIN_JOINT = "plain"
HYPHEN_JOINT = "hyphen"

HYPHEN_COST = 50
EXCESS_COST = 10000


class Piece:
    def __init__(self, characters, joint):
        self.characters = characters
        self.joint = joint


def pieces_of(patterns, text):
    pieces = []
    for word in words_of(text):
        pieces.extend(pieces_of_word(patterns, word))
    return pieces


def pieces_of_word(patterns, word):
    parts = parts_of(word)
    pieces = []
    for part in parts[:-1]:
        pieces.extend(pieces_of_part(patterns, part, PLAIN_JOINT))
    pieces.extend(pieces_of_part(patterns, parts[-1], SPACE_JOINT))
    return pieces


def parts_of(word):
    parts = []
    start = 0
    for at in range(1, len(word)):
        if word[at - 1] == HYPHEN and word[at] != HYPHEN:
            parts.append(word[start:at])
            start = at
    parts.append(word[start:])
    return parts


def pieces_of_part(patterns, part, last_joint):
    pieces = []
    start = 0
    for position in positions_of(patterns, part):
        pieces.append(Piece(part[start:position], HYPHEN_JOINT))
        start = position
    pieces.append(Piece(part[start:], last_joint))
    return pieces


def line_text(pieces):
    text = []
    for piece in pieces[:-1]:
        text.extend(piece.characters)
        if piece.joint == SPACE_JOINT:
            text.append(BLANK)
    last = pieces[-1]
    text.extend(last.characters)
    if last.joint == HYPHEN_JOINT:
        text.append(HYPHEN)
    return text


def allowed_lengths(width, pieces, start):
    # The lengths of the allowed lines from this piece on, with one piece, with two and so on.
    lengths = []
    length = 0
    for piece in pieces[start:]:
        length += len(piece.characters)
        shown = length + 1 if piece.joint == HYPHEN_JOINT else length
        # With each further piece a line grows, so that no longer one is allowed either.
        if lengths and shown > width:
            break
        lengths.append(shown)
        if piece.joint == SPACE_JOINT:
            length += 1
    return lengths


def line_cost(width, length, joint, is_last):
    result = filling_cost(width, length, is_last, EXCESS_COST)
    if joint == HYPHEN_JOINT:
        result += HYPHEN_COST
    return result


def allowed_costs(width, pieces, start):
    costs = []
    for end, length in enumerate(allowed_lengths(width, pieces, start), start=start + 1):
        costs.append(line_cost(width, length, pieces[end - 1].joint, end == len(pieces)))
    return costs


def best_counts(width, pieces):
    return best_division(len(pieces), lambda start: allowed_costs(width, pieces, start))


def greedy_counts(width, pieces):
    counts = []
    at = 0
    while at < len(pieces):
        # An allowed line that doesn't fit has one piece, so the allowed line with most pieces is the greedy one.
        counts.append(len(allowed_lengths(width, pieces, at)))
        at += counts[-1]
    return counts


def division_cost(width, pieces, counts):
    total = 0
    start = 0
    for count in counts:
        end = start + count
        if count == 0 or end > len(pieces):
            raise NotFitting()
        length = len(line_text(pieces[start:end]))
        if length > width and count > 1:
            raise NotFitting()
        total += line_cost(width, length, pieces[end - 1].joint, end == len(pieces))
        start = end
    if start < len(pieces):
        raise NotFitting()
    return total


def lines_of(pieces, counts):
    lines = []
    start = 0
    for count in counts:
        lines.append(line_text(pieces[start:start + count]))
        start += count
    return lines
