"""The refusals: errors that are answered by a code alone."""


class Refusal(Exception):
    def __init__(self, answer):
        self.answer = answer


class NotNotation(Refusal):
    def __init__(self):
        Refusal.__init__(self, -20)


class NotPatterns(Refusal):
    def __init__(self):
        Refusal.__init__(self, -21)


class OutOfRange(Refusal):
    def __init__(self):
        Refusal.__init__(self, -22)


class NotUtf8(Refusal):
    def __init__(self):
        Refusal.__init__(self, -24)


class NotFitting(Refusal):
    def __init__(self):
        Refusal.__init__(self, -33)
