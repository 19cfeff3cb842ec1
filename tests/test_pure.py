"""What is handed in stays as it was, and nothing is kept from one call to the next."""

import unittest

import reference
from plainlayout.typesetting import break_text, columns, cost, cost_of, greedy_text, hyphenate, justify, layout
from plainlayout.typesetting import page_counts, pages

PATTERNS = reference.octets("hy3ph he2n .be5t b1 1c")
WORD = reference.octets("HyphenBetter")
TEXT = reference.octets("  a better hyphen-ation, \u20ac\u20ac and cbcbcbcbcbcbcbcb--bcbcbcbc\n")

HYPHENATE_CALLS = ((PATTERNS, WORD), ([], WORD), (PATTERNS, []), ([], []), ([65], WORD), (PATTERNS, [0xFF]),
                   ([0xFF], WORD), (reference.octets("a1 " * 200), [97] * 600))
DIVIDING_CALLS = ((10, PATTERNS, TEXT), (80, PATTERNS, TEXT), (10, [], TEXT), (10, PATTERNS, []),
                  (10, [], []), (9, PATTERNS, TEXT), (10, [65], TEXT), (10, PATTERNS, [0xFF]), (10, [0xFF], TEXT),
                  (17, reference.octets("a1 " * 200), [97] * 600))
COST_OF_CALLS = ((10, [], TEXT, [1] * 9), (10, [], TEXT, [1, 1, 1, 1, 2, 2]), (80, [], TEXT, [3, 4]),
                 (10, [], TEXT, [0] * 20), (10, PATTERNS, TEXT, [4294967295]), (9, PATTERNS, TEXT, [1]),
                 (10, [65], TEXT, [1]), (10, PATTERNS, [0xFF], [1]), (10, [], [], []), (10, [], TEXT, []))
JUSTIFY_CALLS = ((80, TEXT), (10, TEXT), (10, [97, 32, 98, 10, 10, 97, 10]), (10, []), (9, TEXT), (10, [0xFF]))
TREE = reference.octets("""(heading 1 "" "Title" (noteref "n")) ; a comment
    (note "n" (para "A note of its own.") (bullets (item))) (para "A better hyphen-ation," (emph "\u20ac") (break) "b")
    (quote (numbers 9 (item (code "" "a\\n\\nb")) (item (para "cbcbcbcbcbcbcbcb")))) (terms (term ("t") (rule)))
    (table "" (caption "c [m]") (align none center) (row (cell "a") (cell "b" "c d")) (row (cell) (cell "e")))
    (figure "" "x" "y") (group (class "k") (note "m" (para "m")) (para "one" (link "" "two") "[m]"))""")
TABLE = reference.octets('(table "" (caption "x") (align none right) (row (cell "abc") (cell "d e f g h")))')
TREES = (TREE, TABLE, [], reference.octets("(para"), [0xFF], reference.octets("(quote" * 16 + ")" * 16),
         reference.octets('(code "" "' + "\\n" * 250 + 'a")'))
LAYOUT_CALLS = [(width, justified, patterns, tree) for width in (10, 30, 81) for justified in (0, 1, 2)
                for patterns in (PATTERNS, [65], [0xFF]) for tree in TREES]
COLUMNS_CALLS = [(width, patterns, tree) for width, justified, patterns, tree in LAYOUT_CALLS if justified == 0]
PAGES_CALLS = [(width, height, justified, patterns, tree) for width, justified, patterns, tree in LAYOUT_CALLS
               for height in (4, 7, 61)]
CALLS = [(hyphenate, call) for call in HYPHENATE_CALLS]
CALLS += [(operation, call) for operation in (break_text, cost, greedy_text) for call in DIVIDING_CALLS]
CALLS += [(cost_of, call) for call in COST_OF_CALLS] + [(justify, call) for call in JUSTIFY_CALLS]
CALLS += [(layout, call) for call in LAYOUT_CALLS] + [(pages, call) for call in PAGES_CALLS]
CALLS += [(page_counts, call) for call in PAGES_CALLS] + [(columns, call) for call in COLUMNS_CALLS]


class Watched(list):
    """A list that tells of every try to change it."""

    def refuse(self, *others, **named):
        raise AssertionError("what was handed in was changed")

    __setitem__ = __delitem__ = __iadd__ = __imul__ = refuse
    append = clear = extend = insert = pop = remove = reverse = sort = refuse


def watched(call):
    return [Watched(value) if isinstance(value, list) else value for value in call]


def copied(call):
    return [list(value) if isinstance(value, list) else value for value in call]


class PureTest(unittest.TestCase):
    def test_what_was_handed_in_stays(self):
        for function, call in CALLS:
            handed = copied(call)
            function(*handed)
            self.assertEqual(handed, copied(call))

    def test_what_was_handed_in_is_not_changed_for_a_while(self):
        for function, call in CALLS:
            self.assertEqual(function(*watched(call)), function(*copied(call)))

    def test_a_second_call_answers_like_the_first(self):
        first = [function(*copied(call)) for function, call in CALLS]
        second = [function(*copied(call)) for function, call in CALLS]
        backwards = [function(*copied(call)) for function, call in reversed(CALLS)]
        self.assertEqual(first, second)
        self.assertEqual(first, backwards[::-1])

    def test_the_same_lists_twice(self):
        for function, call in CALLS:
            handed = copied(call)
            self.assertEqual(function(*handed), function(*handed))

    def test_an_answer_is_the_callers_own(self):
        for function, call in CALLS:
            handed = copied(call)
            answer = function(*handed)
            wanted = list(answer)
            answer.append(7)
            answer[0] = 99
            self.assertEqual(function(*handed), wanted)
            self.assertEqual(handed, copied(call))

    def test_one_list_for_both_texts(self):
        octets = reference.octets("b1 abab")
        self.assertEqual(break_text(10, octets, octets), [7] + octets)
        self.assertEqual(cost(10, octets, octets), [0, 1])
        self.assertEqual(greedy_text(10, octets, octets), [7] + octets)
        self.assertEqual(cost_of(10, octets, octets, [3]), [0])
        octets = [1]
        self.assertEqual(cost_of(10, [], octets, octets), [0])
        octets = reference.octets("abab")
        self.assertEqual(hyphenate(octets, octets), [0])
        octets = []
        self.assertEqual(layout(10, 0, octets, octets), [0])
        self.assertEqual(pages(10, 4, 0, octets, octets), [0])
        self.assertEqual(page_counts(10, 4, 0, octets, octets), [0, 0])
        self.assertEqual(columns(10, octets, octets), [-33])


if __name__ == "__main__":
    unittest.main()
