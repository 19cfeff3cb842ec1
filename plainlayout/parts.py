"""The parts of a list of the notation, taken one after another."""

from plainlayout.characters import is_digit, is_letter
from plainlayout.notation import INTEGER, LIST, STRING, SYMBOL
from plainlayout.refusals import NotNotation

LONGEST_LABEL = 40
# The signs of a label that are neither letters nor digits: - . : _
LABEL_SIGNS = (45, 46, 58, 95)


class Parts:
    def __init__(self, expressions):
        self.expressions = expressions
        self.taken = 0

    def has_more(self):
        return self.taken < len(self.expressions)

    def finish(self):
        if self.has_more():
            raise NotNotation()

    def take_rest(self):
        rest = self.expressions[self.taken:]
        self.taken = len(self.expressions)
        return rest

    def take(self, kind):
        if not self.has_more() or self.expressions[self.taken].kind != kind:
            raise NotNotation()
        self.taken += 1
        return self.expressions[self.taken - 1].content

    def take_text(self):
        return self.take(STRING)

    def take_symbol(self):
        return self.take(SYMBOL)

    def take_list(self):
        return Parts(self.take(LIST))

    def take_integer(self, least, greatest):
        number = self.take(INTEGER)
        if not least <= number <= greatest:
            raise NotNotation()
        return number

    def take_label(self):
        text = self.take_text()
        if not is_label(text):
            raise NotNotation()
        return text

    def take_identifier(self):
        text = self.take_text()
        if text and not is_label(text):
            raise NotNotation()
        return text

    def take_labels(self):
        labels = []
        while self.has_more():
            labels.append(self.take_label())
        return labels

    def take_named(self, name):
        # A list that begins with this symbol: its other parts.
        parts = self.take_list()
        if parts.take_symbol() != name:
            raise NotNotation()
        return parts

    def take_classes(self):
        return self.take_named("class").take_labels()


def is_label(text):
    return 1 <= len(text) <= LONGEST_LABEL and all([is_label_sign(code) for code in text])


def is_label_sign(code):
    return is_letter(code) or is_digit(code) or code in LABEL_SIGNS
