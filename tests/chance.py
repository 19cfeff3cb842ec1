"""Documents by chance, for the tests that compare with the second way."""

STYLES = ("emph", "strong", "strike", "super", "sub", "caps")
LABELS = ("a", "b", "note-1", "x", "Z.9:_")


class Writer:
    def __init__(self, chance):
        self.chance = chance

    def spaces(self):
        return self.chance.choice([" ", " ", " ", " ", "\n", " ; (a \"comment\n", "\t\r\n  "])

    def join(self, name, parts):
        behind = "".join(self.spaces() + part for part in parts)
        return "(" + name + behind + self.chance.choice(["", "", "", " "]) + ")"

    def some(self, least, most, write):
        return [write() for _ in range(self.chance.randint(least, most))]

    def label(self):
        return '"%s"' % self.chance.choice(LABELS)

    def identifier(self):
        return self.chance.choice(['""', '""', '"t1"'])

    def text(self):
        words = []
        for _ in range(self.chance.choice([0, 1, 1, 2, 3, 5, 9])):
            words.append(self.chance.choice([
                "a", "bb", "ccc", "dddd-", "ee-ff", "abcabcabc", "babababababa", "[a]", "[note-1]", "[x]", "\u20ac",
                "-", "\u00e9\u00e9", "[Z.9:_]", "\\\\", '\\"', "\\u{e9}", "cccccccccccccccc"]))
        spaces = [self.chance.choice([" ", " ", " ", "  ", "\\n", "\\t"]) for _ in words]
        return '"' + "".join(word + space for word, space in zip(words, spaces)) + '"'

    def lined(self):
        return '"' + "".join(self.chance.choice(["a", "[b]", "\\n", "\\n", "  ", "abcdefghijklmnop"])
                             for _ in range(self.chance.randint(0, 7))) + '"'

    def classes(self):
        return self.join("class", self.some(0, 2, self.label))

    def inline(self, depth=0):
        kind = self.chance.randint(0, 15 if depth < 2 else 11)
        if kind < 7:
            return self.text()
        if kind < 12:
            return self.chance.choice([
                "(break)", self.join("code", [self.lined()]), self.join("math", [self.text()]),
                self.join("noteref", [self.label()]), self.join("noteref", [self.label()]),
                self.join("ref", [self.label()]), self.join("cite", self.some(1, 3, self.label))])
        inner = self.some(0, 3, lambda: self.inline(depth + 1))
        if kind == 12:
            return self.join("span", [self.classes()] + inner)
        if kind == 13:
            return self.join(self.chance.choice(["link", "image"]), [self.text()] + inner)
        return self.join(self.chance.choice(STYLES), inner)

    def inlines(self):
        return self.some(0, 3, self.inline)

    def blocks(self, depth):
        return self.some(0, 3 if depth < 2 else 1, lambda: self.block(depth))

    def item(self, depth):
        return self.join("item", self.blocks(depth))

    def entry(self, depth):
        return self.join("term", ["(" + " ".join(self.inlines()) + ")"] + self.blocks(depth))

    def table(self):
        size = self.chance.choice([1, 2, 2, 3])
        align = [self.chance.choice(["none", "left", "center", "right"]) for _ in range(size)]
        rows = self.some(1, 3, lambda: self.join("row", [
            self.join("cell", self.some(0, 2, self.inline)) for _ in range(size)]))
        return self.join("table", [self.identifier(), self.join("caption", self.some(0, 1, self.inline)),
                                   self.join("align", align)] + rows)

    def block(self, depth=0):
        kind = self.chance.choice(["para", "para", "para", "heading", "code", "formula", "rule", "table", "figure",
                                   "quote", "bullets", "numbers", "terms", "group", "note", "note"])
        if depth >= 4 and kind in ("quote", "bullets", "numbers", "terms", "group", "note"):
            kind = "para"
        if kind == "para":
            return self.join(kind, self.inlines())
        if kind == "heading":
            return self.join(kind, [str(self.chance.randint(1, 6)), self.identifier()] + self.some(0, 2, self.inline))
        if kind in ("code", "formula"):
            return self.join(kind, [self.identifier(), self.lined()])
        if kind == "rule":
            return "(rule)"
        if kind == "table":
            return self.table()
        if kind == "figure":
            return self.join(kind, [self.identifier(), self.text()] + self.some(0, 2, self.inline))
        return self.container(kind, depth + 1)

    def container(self, kind, depth):
        if kind == "quote":
            return self.join(kind, self.blocks(depth))
        if kind == "bullets":
            return self.join(kind, self.some(1, 3, lambda: self.item(depth)))
        if kind == "numbers":
            start = self.chance.choice(["0", "1", "8", "9", "98", "999998"])
            return self.join(kind, [start] + self.some(1, 3, lambda: self.item(depth)))
        if kind == "terms":
            return self.join(kind, self.some(1, 2, lambda: self.entry(depth)))
        first = self.classes() if kind == "group" else self.label()
        return self.join(kind, [first] + self.blocks(depth))

    def tree(self, size=600, blocks=8):
        """A tree of at most so many bytes and blocks."""
        found = ""
        for _ in range(self.chance.randint(0, blocks)):
            longer = found + self.chance.choice(["", " ", "\n", ";\xff comment\n"]) + self.block()
            if len(longer.encode("utf-8")) <= size:
                found = longer
        return found
