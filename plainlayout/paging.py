"""A document's lines divided into pages, with notes at the foot."""

from plainlayout.characters import codes_of
from plainlayout.division import best_division, filling_cost
from plainlayout.flow import lines_of_blocks
from plainlayout.notes import notes_of, notes_of_line

EXCESS_COST = 100000
KEPT_COST = 1000
FOOT_MARK = "-----"


class Page:
    # Its body and its foot are texts of lines.
    def __init__(self, body, foot, cost):
        self.body = body
        self.foot = foot
        self.cost = cost


def pages_of(setting, width, height, blocks):
    lines = lines_of_blocks(setting, width, blocks)
    notes = notes_of_lines(setting, width, notes_of(blocks), lines)
    counts = best_division(len(lines), lambda start: allowed_costs(height, lines, notes, start))
    result = []
    start = 0
    for count in counts:
        end = start + count
        result.append(page_of(height, lines[start:end], notes[start:end], end == len(lines)))
        start = end
    return result


def notes_of_lines(setting, width, notes, lines):
    # For each line the lines of the notes that it is the first one to refer to: on whichever page this line is, there
    # they are.
    result = []
    placed = {}
    for line in lines:
        texts = []
        for note in notes_of_line(notes, line):
            label = tuple(note.label)
            if label not in placed:
                placed[label] = True
                texts.extend(note.foot_texts(setting, width))
        result.append(texts)
    return result


def allowed_costs(height, lines, notes, start):
    # The costs of the allowed pages from this line on, with one line, with two and so on.
    costs = []
    first = start
    body_size = 0
    note_size = 0
    for end in range(start + 1, len(lines) + 1):
        last = lines[end - 1]
        if last.text:
            # The body begins with the first line that isn't empty.
            first = first if body_size else end - 1
            body_size = end - first
        note_size += len(notes[end - 1])
        size = body_size + foot_size(note_size)
        # With each further line a page grows, so that no longer one is allowed either.
        if size > height and body_size > 1:
            break
        costs.append(page_cost(height, size, last.kept, end == len(lines)))
    return costs


def foot_size(note_size):
    return note_size + 1 if note_size else 0


def page_cost(height, size, kept, is_last):
    result = filling_cost(height, size, is_last, EXCESS_COST)
    if kept and not is_last:
        result += KEPT_COST
    return result


def page_of(height, lines, notes, is_last):
    body = body_of(lines)
    foot = foot_of(notes)
    return Page(body, foot, page_cost(height, len(body) + len(foot), lines[-1].kept, is_last))


def body_of(lines):
    start = 0
    end = len(lines)
    while start < end and not lines[start].text:
        start += 1
    while start < end and not lines[end - 1].text:
        end -= 1
    return [line.text for line in lines[start:end]]


def foot_of(notes):
    texts = []
    for note_texts in notes:
        texts.extend(note_texts)
    return [codes_of(FOOT_MARK)] + texts if texts else []


def page_lines(height, page):
    if not page.foot:
        return page.body
    missing = height - len(page.body) - len(page.foot)
    return page.body + [[]] * missing + page.foot
