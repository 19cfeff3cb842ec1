"""Operation 10: columns."""

import itertools
import random
import unittest

import chance
import reference
import reference_documents
from plainlayout.typesetting import columns, layout


def table(*rows, caption=""):
    """A table of cells that are written as they are in the notation, each row as long as the first one."""
    align = " ".join(["none"] * len(rows[0]))
    cells = " ".join("(row " + " ".join(f"(cell {cell})" for cell in row) + ")" for row in rows)
    return f'(table "" (caption {caption}) (align {align}) {cells})'


class ColumnsTest(unittest.TestCase):
    def check(self, width, tree, *widths, patterns=""):
        octets = reference.octets(tree)
        self.assertLessEqual(len(octets), 600)
        answer = columns(width, reference.octets(patterns), octets)
        self.assertEqual(answer, [len(widths)] + list(widths), (width, tree))
        self.assertIs(type(answer), list)
        for number in answer:
            self.assertIs(type(number), int)

    def check_no_table(self, tree):
        self.assertEqual(columns(10, [], reference.octets(tree)), [-33], tree)

    def test_example(self):
        self.check(10, '(table "" (caption) (align none none) (row (cell "abc") (cell "d e f g h")))', 3, 4)

    def test_one_column(self):
        for size in range(1, 30):
            self.check(10, table([f'"{"a" * size}"']), size)
        self.check(10, table(['"aaa bbb"']), 7)
        self.check(10, table(['"aaa bbb cc"']), 10)
        self.check(10, table(['"aaa bbb ccc"']), 10)
        self.check(80, table(['"aaa bbb ccc"']), 11)
        self.check(10, table(['"a"'], ['"bbb"'], ['"cc"']), 3)

    def test_many_columns(self):
        self.check(80, table(['"a"'] * 12), *[1] * 12)
        self.check(80, table(['"a b"'] * 12), *[3] * 12)
        self.check(65, table(['"a b"'] * 12), *[3] * 8, *[2] * 4)
        self.check(10, table(['"a b"'] * 12), *[1] * 12)

    def test_empty_cells(self):
        for cell in ("", '""', '" "', "(break)", '"\\n\\n"', "(emph)"):
            self.check(10, table([cell]), 1)
            self.check(80, table([cell, '"abc"', cell]), 1, 3, 1)
            self.check(80, table([cell, cell], [cell, '"ab"']), 1, 2)

    def test_the_widest_cell_of_a_column(self):
        self.check(80, table(['"a"', '"bbbb"'], ['"aaa bb"', '"b"'], ['"aa"', '"b b"']), 6, 4)
        self.check(10, table(['"a"', '"bbb"'], ['"aaaa"', '"b"'], ['"aa"', '"b"']), 4, 3)

    def test_the_caption_counts_for_nothing(self):
        self.check(80, table(['"a"'], caption='"aaaaaaaaaaaaaaaa bbbb"'), 1)

    def test_a_width_that_all_natural_widths_fit_into(self):
        tree = table(['"aa bb"', '"c d e"', '"f"'])
        for width in range(17, 81):
            self.check(width, tree, 5, 5, 1)

    def test_a_width_that_not_all_natural_widths_fit_into(self):
        tree = table(['"aa bb"', '"c d e"', '"f"'])
        # The differences are 3, 4 and 0 at first.
        self.check(10, tree, 2, 1, 1)
        self.check(11, tree, 2, 2, 1)
        self.check(12, tree, 3, 2, 1)
        self.check(13, tree, 3, 3, 1)
        self.check(14, tree, 4, 3, 1)
        self.check(15, tree, 4, 4, 1)
        self.check(16, tree, 5, 4, 1)

    def test_a_width_that_the_smallest_widths_exceed(self):
        self.check(10, table(['"aaaaaaaa a"', '"bbbbbbbb b"']), 8, 8)
        self.check(10, table(['"aaaaaaaaaaaaaaaaaaaaaaaaaaa a"']), 27)
        self.check(10, table(['"aaaa a"', '"bbb b"']), 4, 3)
        self.check(10, table(['"aaaa a"', '"bbbb b"']), 4, 4)
        self.check(11, table(['"aaaa a"', '"bbbb b"']), 4, 4)
        self.check(12, table(['"aaaa a"', '"bbbb b"']), 5, 4)

    def test_of_columns_with_the_same_difference_the_first_one(self):
        tree = table(['"a b c"', '"a b c"', '"a b c"'])
        for width, widths in enumerate(([2, 1, 1], [2, 2, 1], [2, 2, 2], [3, 2, 2], [3, 3, 2], [3, 3, 3], [4, 3, 3],
                                        [4, 4, 3], [4, 4, 4], [5, 4, 4], [5, 5, 4], [5, 5, 5], [5, 5, 5]), start=10):
            self.check(width, tree, *widths)

    def test_the_column_with_the_greatest_difference(self):
        tree = table(['"a b"', '"a b c d e"', '"a b c"'])
        # The differences are 2, 8 and 4.
        steps = ([1, 2, 1], [1, 3, 1], [1, 4, 1], [1, 5, 1], [1, 6, 1], [1, 6, 2], [1, 7, 2], [1, 7, 3], [2, 7, 3],
                 [2, 8, 3], [2, 8, 4], [3, 8, 4], [3, 9, 4], [3, 9, 5])
        for number, widths in enumerate(steps):
            self.check(10 + number, tree, *widths)
        for width in range(24, 81):
            self.check(width, tree, 3, 9, 5)

    def test_white_space(self):
        self.check(80, table(['"  a   b\\t\\tc  "']), 5)
        self.check(80, table(['"a\\u{d}b"']), 3)

    def test_line_feeds_and_line_breaks(self):
        for line_feed in ("\\n", '" (break) "', "\\n\\n", '" (code "\\n") "'):
            self.check(80, table([f'"aa b{line_feed}ccc d{line_feed}e"']), 5)
            self.check(10, table([f'"aa bb{line_feed}cc dd"', '"xxxx"']), 3, 4)

    def test_pieces(self):
        self.check(10, table(['"aa-bbb"', '"xxxxxx"']), 3, 6)
        self.check(10, table(['"aaabbb"', '"xxxxxx"']), 6, 6)
        self.check(10, table(['"aaabbb"', '"xxxxxx"']), 4, 6, patterns="a1b")
        self.check(80, table(['"aaabbb"', '"xxxxxx"']), 6, 6, patterns="a1b")
        self.check(12, table(['"aaa-bbb"', '"xxxxxx"']), 4, 6)
        self.check(10, table(['"aabb"', '"xxxx"']), 3, 4, patterns="a1b")
        self.check(10, table(['"aaaab"', '"xxxx"']), 4, 4, patterns="aaa1ab")

    def test_a_natural_width_is_never_less_than_a_smallest_width(self):
        # A piece that ends with a hyphen has at least two letters less than its word.
        for size in range(1, 9):
            for letters in itertools.product("ab-", repeat=size):
                word = "".join(letters)
                widths = []
                for width in (10, 80):
                    answer = columns(width, [98, 49], reference.octets(table([f'"{word}"', '"xxxxxxxxxx"'])))
                    widths.append(answer[1])
                self.assertLessEqual(widths[0], widths[1], word)
                self.assertEqual(widths[1], size)

    def test_characters_of_more_than_one_byte(self):
        for letter in ("\u00e9", "\u20ac", "\U0001f600"):
            self.check(80, table([f'"{letter * 3} {letter}"', f'"{letter}"']), 5, 1)
            self.check(10, table([f'"{letter * 3} {letter}"', f'"{letter * 5}"']), 3, 5)

    def test_inline_elements(self):
        self.check(80, table(['(noteref "n")', '(cite "a" "b")', '(emph "a" (strong "b"))', '(link "target" "x")']),
                   3, 6, 2, 1)

    def test_comments_and_white_space_around_the_table(self):
        self.check(10, f' ; a table\n {table([""])}\n;', 1)

    def test_alignments_count_for_nothing(self):
        for name in ("none", "left", "center", "right"):
            self.check(10, table(['"ab"']).replace("none", name), 2)

    def test_no_table(self):
        one = table([""])
        for tree in ("", " ", "; a", "(para)", "(rule)", '(para "a")', f"{one} {one}", f"(group (class) {one})",
                     f"(quote {one})", f"(bullets (item {one}))", f"(numbers 1 (item {one}))",
                     f"(terms (term () {one}))", f'(note "a" {one})', f"{one} (para)", f"(para) {one}",
                     f'{one} (note "a")', f'(note "a") {one}', f"{one} (rule)", f"(rule) {one}", f"{one} {one} {one}",
                     '(figure "" "")', '(code "" "")', "(group (class))"):
            self.check_no_table(tree)

    def test_the_widths_are_those_of_the_layout(self):
        chosen = random.Random(101)
        for _ in range(300):
            tree = chance.Writer(chosen).table()
            width = chosen.randint(10, 60)
            octets = reference.octets(tree)
            if len(octets) <= 600:
                answer = columns(width, [98, 49], octets)
                lines = bytes(layout(width, 0, [98, 49], octets)[1:]).decode("utf-8").split("\n")
                self.assertIn("-+-".join("-" * size for size in answer[1:]), lines)
                self.assertEqual(answer[0], len(answer) - 1)

    def test_tables_against_the_reference(self):
        chosen = random.Random(102)
        for _ in range(1500):
            tree = chance.Writer(chosen).table()
            width = chosen.randint(10, 40)
            patterns = chosen.choice(["", "b1", "1a b2c", "a1b c1c 1b"])
            octets = reference.octets(tree)
            document = reference_documents.Layout(0, patterns)
            rows = reference_documents.parsed(octets)[0][4:]
            texts = [[reference_documents.text_of(cell[1:]) for cell in row[1:]] for row in rows]
            wanted = document.columns(width, texts)
            answer = columns(width, reference.octets(patterns), octets)
            self.assertEqual(answer, [len(wanted)] + wanted, (width, patterns, tree))

    def test_long_trees(self):
        for count, cell in ((18, ""), (20, '""'), (18, '"a"'), (12, '"aa b"')):
            tree = table([cell] * count)
            self.assertLessEqual(len(tree), 600)
            for width in range(10, 81):
                answer = columns(width, [], reference.octets(tree))
                self.assertEqual(answer[0], count)
                room = max(width - 3 * (count - 1), 0)
                natural = len(cell.strip('"')) or 1
                smallest = min(natural, 2)
                wanted = max(min(count * natural, room), count * smallest)
                self.assertEqual(sum(answer[1:]), wanted, (count, cell, width))


if __name__ == "__main__":
    unittest.main()
