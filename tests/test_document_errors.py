"""The errors of the operations on documents, and the order in which they are looked for."""

import unittest

import reference
from plainlayout.typesetting import columns, layout, page_counts, pages
from test_errors import NOT_PATTERNS, NOT_UTF8, WRONG_WIDTHS

WRONG_HEIGHTS = (0, 1, 3, 61, 62, 255, 4294967295)
WRONG_JUSTIFIED = (2, 3, 255, 4294967295)
TABLE = '(table "" (caption) (align none) (row (cell "a")))'
NOT_DOCUMENTS = ("(", ")", "a", "1", '"a"', "(para", "(para 1)", "\u00e4", '(para "\\x")', "(quote" * 17 + ")" * 17)


def with_justified(justified):
    return lambda width, patterns, tree: layout(width, justified, patterns, tree)


def with_height(operation, height, justified):
    return lambda width, patterns, tree: operation(width, height, justified, patterns, tree)


# Each one takes a width, patterns and a tree; the other integers are inside of their ranges.
OPERATIONS = (with_justified(0), with_justified(1), with_height(pages, 4, 0), with_height(pages, 60, 1),
              with_height(page_counts, 4, 0), with_height(page_counts, 60, 1), columns)
# Each one takes patterns and a tree; an integer is outside of its range.
OUT_OF_RANGE = (
    [lambda patterns, tree, width=width: columns(width, patterns, tree) for width in WRONG_WIDTHS]
    + [lambda patterns, tree, width=width: layout(width, 0, patterns, tree) for width in WRONG_WIDTHS]
    + [lambda patterns, tree, wrong=wrong: layout(10, wrong, patterns, tree) for wrong in WRONG_JUSTIFIED])
for paged in (pages, page_counts):
    OUT_OF_RANGE += (
        [lambda patterns, tree, paged=paged, width=width: paged(width, 4, 0, patterns, tree) for width in WRONG_WIDTHS]
        + [lambda patterns, tree, paged=paged, high=high: paged(10, high, 0, patterns, tree) for high in WRONG_HEIGHTS]
        + [lambda patterns, tree, paged=paged, one=one: paged(10, 4, one, patterns, tree) for one in WRONG_JUSTIFIED])


class DocumentErrorsTest(unittest.TestCase):
    def check(self, wanted, patterns, tree, width=10):
        for operation in OPERATIONS:
            handed = [value if isinstance(value, list) else reference.octets(value) for value in (patterns, tree)]
            self.assertEqual(operation(width, *handed), wanted, (width, patterns, tree))

    def check_good(self, patterns, tree, width=10):
        for operation in OPERATIONS:
            handed = [value if isinstance(value, list) else reference.octets(value) for value in (patterns, tree)]
            self.assertGreater(operation(width, *handed)[0], 0, (width, patterns, tree))

    def test_integers_outside_their_ranges(self):
        for operation in OUT_OF_RANGE:
            self.assertEqual(operation([], reference.octets(TABLE)), [-22])
        for wrong in (4294967295, 0):
            self.assertEqual(layout(wrong, 4294967295, [], []), [-22])
            self.assertEqual(pages(wrong, wrong, 4294967295, [], []), [-22])
            self.assertEqual(page_counts(wrong, wrong, 4294967295, [], []), [-22])

    def test_integers_are_checked_first(self):
        for operation in OUT_OF_RANGE:
            for patterns in ([], [65], [0xFF]):
                for tree in ([], [40], [0xFF], reference.octets("(rule)")):
                    self.assertEqual(operation(list(patterns), list(tree)), [-22])

    def test_integers_inside_their_ranges(self):
        octets = reference.octets(TABLE)
        wanted = [3, 97, 10, 45]
        for width in range(10, 81):
            self.assertEqual(layout(width, width % 2, [], octets), wanted)
            self.assertEqual(pages(width, 4, width % 2, [], octets), wanted)
            self.assertEqual(page_counts(width, 4, width % 2, [], octets), [1, 0, 2, 0])
            self.assertEqual(columns(width, [], octets), [1, 1])
        for height in range(4, 61):
            self.assertEqual(pages(10, height, 0, [], octets), wanted)
            self.assertEqual(page_counts(10, height, 0, [], octets), [1, 0, 2, 0])

    def test_patterns_that_are_not_utf8(self):
        for wrong in NOT_UTF8:
            for octets in (wrong, [97] + wrong, wrong + [32, 97], [65, 32] + wrong, [49, 49] + wrong):
                self.check([-24], octets, TABLE)
        self.check([-24], [97] * 599 + [0xC3], TABLE)

    def test_patterns_that_are_not_patterns(self):
        for wrong in NOT_PATTERNS:
            self.check([-21], wrong, TABLE)
            self.check([-21], f"a1b {wrong}", TABLE)

    def test_patterns(self):
        for patterns in ("", " ", "a", "1.", "a1 1a\t9.\r\n", "a " * 300):
            self.check_good(patterns, TABLE)

    def test_trees_that_are_no_documents(self):
        for tree in NOT_DOCUMENTS:
            self.check([-20], "", tree)
            self.check([-20], "a1b", tree)
            self.check([-20], "", f"{TABLE} {tree}")

    def test_trees_that_are_not_utf8(self):
        # That's no text that isn't UTF-8 (-24), it isn't the notation of a document.
        for wrong in NOT_UTF8:
            self.check([-20], "", list(wrong))
            self.check([-20], "", reference.octets('(para "') + list(wrong) + reference.octets('")'))
            self.check([-20], "", reference.octets(TABLE) + list(wrong))
            self.check([-20], "", reference.octets("(quote ") + list(wrong) + reference.octets(")"))
            if 0x0A not in wrong:
                self.check_good("", reference.octets(f"{TABLE} ;") + list(wrong) + reference.octets("\n"))
                self.check_good("", reference.octets(f"{TABLE} ;") + list(wrong))

    def test_the_patterns_are_checked_ahead_of_the_tree(self):
        for tree in ("(", ")", "(para 1)", [0xFF], reference.octets('(para "') + [0xFF], ""):
            self.check([-24], [0xFF], tree)
            self.check([-21], [65], tree)
            self.check([-24], [65, 32, 0xFF], tree)

    def test_the_patterns_are_checked_without_need_of_them(self):
        for tree in ("", "(rule)", "(para)", '(para "a")'):
            self.check([-24], [0xFF], tree)
            self.check([-21], [65], tree)

    def test_trees_are_checked_where_nothing_is_shown_of_them(self):
        for tree in ('(note "n" (para 1))', '(note "n" (note "n" a))', '(heading 1 "a b")', '(code "a b" "")',
                     '(para (link 1))', '(group (class "a b"))'):
            self.check([-20], "", tree)

    def test_no_table_comes_last(self):
        for tree in ("", "(rule)", f"{TABLE} {TABLE}", f"(quote {TABLE})", f'{TABLE} (note "a")'):
            octets = reference.octets(tree)
            self.assertEqual(columns(10, [], octets), [-33], tree)
            self.assertEqual(columns(10, [97, 49], octets), [-33], tree)
            self.assertEqual(columns(10, [0xFF], octets), [-24], tree)
            self.assertEqual(columns(10, [65], octets), [-21], tree)
            self.assertEqual(columns(10, [], octets + [40]), [-20], tree)
            for width in WRONG_WIDTHS:
                self.assertEqual(columns(width, [], octets), [-22], tree)

    def test_only_columns_ask_for_a_table(self):
        for tree in ("", "(rule)", f"{TABLE} {TABLE}", f"(quote {TABLE})"):
            for operation in OPERATIONS:
                if operation is not columns:
                    self.assertGreaterEqual(operation(10, [], reference.octets(tree))[0], 0)

    def test_an_error_is_its_code_alone(self):
        for operation in OUT_OF_RANGE:
            self.assertEqual(len(operation([], [])), 1)
        for operation in OPERATIONS:
            self.assertEqual([operation(10, [0xFF], []), operation(10, [65], []), operation(10, [], [40])],
                             [[-24], [-21], [-20]])


if __name__ == "__main__":
    unittest.main()
