"""A second way, over Python's own texts, to read a document, to lay it out and to divide it into pages."""

import collections
import functools
import re

import reference

TOKEN = re.compile(rb"""
    (?P<skip> [ \t\n\r]+ | ;[^\n]* )
    | (?P<begin> \( ) | (?P<end> \) )
    | (?P<string> " (?: [^"\\\x00-\x1f] | \\["\\nt] | \\u\{[0-9a-f]{1,6}\} )* " )
    | (?P<integer> 0 | [1-9][0-9]{0,5} (?![0-9]) )
    | (?P<symbol> [a-z][a-z0-9-]* )
    """, re.X)

# How each list goes on behind its first symbol. A part with `*` or `+` is the last one.
BLOCKS = {"para": "inline*", "heading": "level identifier inline*", "code": "identifier text",
          "formula": "identifier text", "rule": "", "quote": "block*", "bullets": "item+", "numbers": "start item+",
          "terms": "term+", "table": "identifier caption align row+", "figure": "identifier text inline*",
          "group": "class block*", "note": "label block*"}
INLINES = {"code": "text", "math": "text", "break": "", "noteref": "label", "ref": "label", "cite": "label+",
           "emph": "inline*", "strong": "inline*", "strike": "inline*", "super": "inline*", "sub": "inline*",
           "caps": "inline*", "link": "text inline*", "image": "text inline*", "span": "class inline*"}
OTHERS = {"item": "block*", "term": "inlines block*", "caption": "inline*", "align": "alignment+", "row": "cell*",
          "cell": "inline*", "class": "label*"}
LABEL = re.compile(r"[A-Za-z0-9_.:-]{1,40}\Z")

Symbol = collections.namedtuple("Symbol", "name")
Line = collections.namedtuple("Line", "text kept cells")
Page = collections.namedtuple("Page", "cost body foot")


class Wrong(Exception):
    pass


def parsed(octets):
    """The expressions of a document, as texts, numbers, symbols and lists; Wrong if it isn't one."""
    inner = [[]]
    at = 0
    octets = bytes(octets)
    while at < len(octets):
        token = TOKEN.match(octets, at)
        if not token:
            raise Wrong()
        at = token.end()
        if token.lastgroup == "begin":
            inner.append([])
        elif token.lastgroup == "end":
            parts = inner.pop()
            if not inner:
                raise Wrong()
            inner[-1].append(parts)
        elif token.lastgroup != "skip":
            inner[-1].append(atom(token.lastgroup, token.group()))
        if len(inner) > 17:
            raise Wrong()
    if len(inner) != 1 or not all(fits("block", part) for part in inner[0]):
        raise Wrong()
    return inner[0]


def atom(kind, octets):
    if kind == "integer":
        return int(octets)
    if kind == "symbol":
        return Symbol(octets.decode())
    try:
        text = octets[1:-1].decode("utf-8")
        return re.sub(r"\\(u\{(.*?)\}|.)", unescaped, text)
    except ValueError:
        raise Wrong() from None


def unescaped(found):
    if found.group(2):
        character = chr(int(found.group(2), 16))
        character.encode("utf-8")
        return character
    return {"n": "\n", "t": "\t"}.get(found.group(1), found.group(1))


def fits(kind, part):
    if kind in ("text", "label", "identifier"):
        free_form = kind == "text" or kind == "identifier" and part == ""
        return isinstance(part, str) and (free_form or bool(LABEL.match(part)))
    if kind in ("level", "start"):
        return isinstance(part, int) and (kind == "start" or 1 <= part <= 6)
    if kind == "alignment":
        return isinstance(part, Symbol) and part.name in ("none", "left", "center", "right")
    if kind == "inline" and isinstance(part, str):
        return True
    if not isinstance(part, list):
        return False
    if kind == "inlines":
        return all(fits("inline", one) for one in part)
    forms = {"block": BLOCKS, "inline": INLINES}.get(kind, OTHERS)
    if not part or not isinstance(part[0], Symbol) or part[0].name not in forms:
        return False
    if forms is OTHERS and part[0].name != kind:
        return False
    return follows(forms[part[0].name].split(), part[1:]) and (part[0].name != "table" or even(part))


def follows(form, parts):
    rest = list(parts)
    for kind in form:
        if kind[-1] in "*+":
            return (bool(rest) or kind[-1] == "*") and all(fits(kind[:-1], part) for part in rest)
        if not rest or not fits(kind, rest.pop(0)):
            return False
    return not rest


def even(table):
    return all(len(row) == len(table[3]) for row in table[4:])


def is_document(octets):
    try:
        parsed(octets)
    except Wrong:
        return False
    return True


def text_of(inlines):
    text = ""
    for part in inlines:
        if isinstance(part, str):
            text += part
            continue
        name = part[0].name
        if name in ("code", "math", "ref"):
            text += part[1]
        elif name == "break":
            text += "\n"
        elif name in ("noteref", "cite"):
            text += "[" + ", ".join(part[1:]) + "]"
        else:
            text += text_of(part[2 if name in ("link", "image", "span") else 1:])
    return text


def free(text):
    return Line(text, False, (text,))


def kept(text):
    return Line(text, True, (text,))


def divided(patterns, width, text, justified=False):
    found = []
    for part in text.split("\n"):
        of = reference.pieces(patterns, part)
        lines = reference.lines(of, reference.best(width, of))
        if justified:
            lines[:-1] = [reference.justified(width, line) for line in lines[:-1]]
        found += lines
    return found


class Layout:
    def __init__(self, justified, patterns):
        self.justified = justified
        self.patterns = patterns

    def blocks(self, width, blocks):
        parts = [part for part in (self.block(width, block) for block in blocks) if part]
        found = []
        for part in parts:
            found += ([free("")] if found else []) + part
        return found

    def block(self, width, block):
        name, parts = block[0].name, block[1:]
        return getattr(self, name)(width, *parts)

    def inlines(self, width, inlines, justified):
        return divided(self.patterns, width, text_of(inlines), justified)

    def para(self, width, *inlines):
        lines = self.inlines(width, inlines, self.justified)
        last_but_one = len(lines) - 2
        return [Line(text, last_but_one >= 0 and k in (0, last_but_one), (text,)) for k, text in enumerate(lines)]

    def heading(self, width, level, identifier, *inlines):
        lines = self.inlines(width, inlines, False)
        if level < 3:
            lines.append(" =-"[level] * max(map(len, lines), default=0))
        return [kept(text) for text in lines]

    def code(self, width, language, text):
        size = max(width - 4, 10)
        found = []
        for line in text.split("\n") if text else []:
            found += re.findall("(?s).{1,%d}" % size, line) or [""]
        return self.behind("    ", "    ", [free(text) for text in found])

    formula = code

    def rule(self, width):
        return [free("-" * width)]

    def quote(self, width, *blocks):
        return [Line("> " + line.text if line.text else ">", line.kept, line.cells)
                for line in self.blocks(max(width - 2, 10), blocks)]

    def behind(self, first, others, lines):
        found = []
        for line in lines:
            prefix = others if found else first
            # Only what isn't blank in it stands ahead of an empty line.
            if not line.text and not prefix.strip():
                prefix = ""
            found.append(line._replace(text=prefix + line.text))
        return found

    def marked(self, width, marker, blocks):
        lines = self.blocks(max(width - len(marker), 10), blocks)
        return self.behind(marker, " " * len(marker), lines or [free("")])

    def bullets(self, width, *items):
        return sum((self.marked(width, "- ", item[1:]) for item in items), [])

    def numbers(self, width, first, *items):
        markers = ["%d. " % (first + k) for k in range(len(items))]
        size = max(map(len, markers))
        return sum((self.marked(width, marker.rjust(size), item[1:]) for marker, item in zip(markers, items)), [])

    def terms(self, width, *entries):
        found = []
        for entry in entries:
            found += [kept(text) for text in self.inlines(width, entry[1], False)]
            found += self.behind("    ", "    ", self.blocks(max(width - 4, 10), entry[2:]))
        return found

    def figure(self, width, identifier, target, *caption):
        shown = f"[{target}]"
        return [kept(shown) if caption else free(shown)] + [
            free(text) for text in self.inlines(width, caption, self.justified)]

    def group(self, width, classes, *blocks):
        return self.blocks(width, blocks)

    def note(self, width, label, *blocks):
        return []

    def table(self, width, identifier, caption, align, *rows):
        texts = [[text_of(cell[1:]) for cell in row[1:]] for row in rows]
        widths = self.columns(width, texts)
        found = []
        for number, row in enumerate(texts):
            found += [line._replace(kept=number == 0) for line in self.row(widths, align[1:], row)]
            if number == 0:
                found.append(kept("-+-".join("-" * size for size in widths)))
        lines = self.inlines(width, caption[1:], self.justified)
        return found + [free(text) for text in ([""] + lines if lines else [])]

    def columns(self, width, texts):
        smallest, natural = [], []
        for column in zip(*texts):
            of = [piece for text in column for piece in reference.pieces(self.patterns, text)]
            smallest.append(max([1] + [len(reference.line([piece])) for piece in of]))
            lines = "\n".join(column).split("\n")
            natural.append(max([1] + [len(" ".join(reference.words(line))) for line in lines]))
        widths = list(smallest)
        for _ in range(width - sum(smallest) - 3 * (len(smallest) - 1)):
            differences = [wanted - size for wanted, size in zip(natural, widths)]
            best = max(range(len(widths)), key=lambda column: (differences[column], -column))
            if differences[best] > 0:
                widths[best] += 1
        return widths

    def row(self, widths, align, row):
        cells = [divided(self.patterns, size, text) for size, text in zip(widths, row)]
        found = []
        for k in range(max([1] + [len(cell) for cell in cells])):
            texts = ["".join(cell[k:k + 1]) for cell in cells]
            placed = [self.placed(symbol.name, size, text) for symbol, size, text in zip(align, widths, texts)]
            found.append(Line(" | ".join(placed).rstrip(" "), False, tuple(texts)))
        return found

    def placed(self, alignment, size, text):
        left = {"center": (size - len(text)) // 2, "right": size - len(text)}.get(alignment, 0)
        return (" " * left + text).ljust(size)

    def foot(self, width, note):
        marker = f"[{note[1]}] "
        return [line.text for line in self.marked(width, marker, note[2:])]


def notes_within(expressions):
    """The notes at any depth; of several with the same label the first one."""
    found = {}
    for part in expressions:
        if isinstance(part, list):
            if part and part[0] == Symbol("note"):
                found.setdefault(part[1], part)
            for label, note in notes_within(part).items():
                found.setdefault(label, note)
    return found


def labels_of(known, line):
    return [label for cell in line.cells for label in known if f"[{label}]" in cell]


class Document:
    def __init__(self, width, justified, patterns, octets):
        self.width = width
        self.layout = Layout(justified, patterns)
        blocks = parsed(octets)
        self.known = notes_within(blocks)
        self.lines = self.layout.blocks(width, blocks)

    def page(self, height, start, end):
        """The page of these lines; its cost is None if it isn't allowed."""
        body = [line.text for line in self.lines[start:end]]
        while body and not body[0]:
            body.pop(0)
        while body and not body[-1]:
            body.pop()
        before = {label for line in self.lines[:start] for label in labels_of(self.known, line)}
        own = {label: True for line in self.lines[start:end] for label in labels_of(self.known, line)}
        foot = sum((self.layout.foot(self.width, self.known[label]) for label in own if label not in before), [])
        foot = ["-----"] + foot if foot else []
        return Page(self.cost(height, len(body), len(foot), self.lines[end - 1].kept, end == len(self.lines)),
                    body, foot)

    def cost(self, height, body, foot, is_kept, is_last):
        if body + foot > height:
            if body > 1:
                return None
            found = 100000 * (body + foot - height)
        else:
            found = 0 if is_last else (height - body - foot) ** 2
        return found + (1000 if is_kept and not is_last else 0)

    def pages(self, height):
        """The best division: the least pair of the cost and the numbers of lines, each taken as below zero."""
        @functools.lru_cache(None)
        def behind(start):
            if start == len(self.lines):
                return (0, (), ())
            found = []
            for end in range(start + 1, len(self.lines) + 1):
                page = self.page(height, start, end)
                if page.cost is not None:
                    total, counts, others = behind(end)
                    found.append((page.cost + total, (start - end,) + counts, (page,) + others))
                elif len(page.body) > height:
                    # No longer one is allowed either.
                    break
            return min(found, key=lambda division: division[:2])
        for start in range(len(self.lines), -1, -1):
            behind(start)
        return behind(0)[2]

    def pages_of_all(self, height):
        """The best division, found by a look at every one."""
        pages = {(start, end): self.page(height, start, end)
                 for start in range(len(self.lines)) for end in range(start + 1, len(self.lines) + 1)}
        best = None
        for counts in reference.all_divisions(len(self.lines)):
            ends = [sum(counts[:k + 1]) for k in range(len(counts))]
            division = [pages[end - count, end] for end, count in zip(ends, counts)]
            if all(page.cost is not None for page in division):
                found = (sum(page.cost for page in division), [-count for count in counts], division)
                best = found if best is None else min(best, found, key=lambda one: one[:2])
        return best[2]


def layout_answer(width, justified, patterns, tree):
    document = Document(width, justified, patterns, reference.octets(tree))
    return reference.as_answer([line.text for line in document.lines])


def page_text(height, page):
    missing = max(height - len(page.body) - len(page.foot), 0) if page.foot else 0
    return "\n".join(page.body + [""] * missing + page.foot)


def pages_answer(height, pages):
    return reference.as_answer(["\n\f\n".join(page_text(height, page) for page in pages)])
