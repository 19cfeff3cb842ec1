"""Operation 8: pages."""

import random
import unittest

import chance
import reference
import reference_documents
from plainlayout.typesetting import pages


def code(*lines):
    """A code whose lines are free ones; each stands after four spaces."""
    return '(code "" "' + "\\n".join(lines) + '")'


def letters(count):
    return "abcdefghijklmnopqrstuvwxyz"[:count]


class PagesTest(unittest.TestCase):
    def check(self, height, tree, wanted, width=20, justified=0, patterns=""):
        """The lines of one page after another."""
        octets = reference.octets(tree)
        self.assertLessEqual(len(octets), 600)
        answer = pages(width, height, justified, reference.octets(patterns), octets)
        text = "\n\f\n".join("\n".join(lines) for lines in wanted)
        self.assertEqual(answer, reference.as_answer([text]), (height, tree))
        self.assertIs(type(answer), list)
        for number in answer:
            self.assertIs(type(number), int)

    def check_code(self, height, count, *wanted):
        """So many lines of a code, and the lines of each page, each page as one word."""
        self.check(height, code(*letters(count)), [["    " + line for line in page] for page in wanted])

    # The form

    def test_the_form_of_the_answer(self):
        self.assertEqual(pages(10, 4, 0, [], reference.octets('(para "a")')), [1, 97])
        answer = pages(10, 4, 0, [], reference.octets('(bullets (item) (item) (item) (item) (item))'))
        self.assertEqual(answer, reference.as_answer(["- ", "- ", "- ", "- ", "\f", "- "]))
        self.assertEqual(answer.count(12), 1)

    def test_a_document_without_lines(self):
        for tree in ("", "(para)", '(note "a" (para "b"))', "; a"):
            for height in (4, 60):
                self.assertEqual(pages(10, height, 0, [], reference.octets(tree)), [0])

    def test_a_document_of_empty_lines(self):
        for tree in ('(heading 1 "")', '(code "" "\\n")', '(code "" "\\n\\n\\n\\n\\n\\n\\n\\n\\n")',
                     '(heading 1 "") (heading 2 "") (heading 1 "")'):
            for height in (4, 60):
                self.assertEqual(pages(10, height, 0, [], reference.octets(tree)), [0])

    # Pages without a foot

    def test_documents_of_one_page(self):
        self.check_code(4, 1, "a")
        self.check_code(4, 3, "abc")
        self.check_code(4, 4, "abcd")
        self.check_code(5, 5, "abcde")
        self.check_code(60, 26, letters(26))

    def test_one_line_more(self):
        self.check_code(4, 5, "abcd", "e")
        self.check_code(5, 6, "abcde", "f")
        self.check_code(4, 9, "abcd", "efgh", "i")

    def test_the_greatest_height(self):
        lines = [f"{number:02}" for number in range(61)]
        self.check(60, code(*lines[:60]), [["    " + line for line in lines[:60]]])
        self.check(60, code(*lines), [["    " + line for line in lines[:60]], ["    " + lines[60]]])

    def test_the_last_page_costs_nothing(self):
        self.check_code(4, 6, "abcd", "ef")
        self.check_code(4, 7, "abcd", "efg")
        self.check_code(4, 8, "abcd", "efgh")

    def test_of_equal_divisions_the_first_page_has_most_lines(self):
        self.check_code(4, 11, "abcd", "efgh", "ijk")
        # The empty line could begin the second page at the same cost.
        self.check(4, code("a", "b", "c", "d", "", "e"), [["    a", "    b", "    c", "    d"], ["    e"]])
        # The line "h" is kept, and seven lines ahead of it are on two pages: 4 and 3, or 3 and 4.
        tree = f'(bullets (item {code(*letters(7))}) (item (para "h\\ni\\nj\\nk")))'
        self.check(4, tree, [["-     a", "      b", "      c", "      d"], ["      e", "      f", "      g"],
                             ["- h", "  i", "  j", "  k"]])

    def test_the_empty_line_between_blocks_takes_room(self):
        tree = '(para "a") (para "b") (para "c") (para "d") (para "e")'
        self.check(4, tree, [["a", "", "b"], ["c", "", "d"], ["e"]])
        self.check(5, tree, [["a", "", "b", "", "c"], ["d", "", "e"]])

    # Empty lines

    def test_empty_lines_at_both_ends(self):
        self.check(4, '(para "a") (para "b") (para "c")', [["a", "", "b"], ["c"]])
        self.check(5, '(para "a") (para "b") (para "c")', [["a", "", "b", "", "c"]])
        self.check(4, code("", "", "a", "b", "", ""), [["    a", "    b"]])
        self.check(4, code("", "", "a", "", "", "b", "", ""), [["    a", "", "", "    b"]])

    def test_many_empty_lines(self):
        self.check(4, code("a", *[""] * 30, "b"), [["    a"], ["    b"]])
        self.check(4, code("a", "b", *[""] * 30, "c"), [["    a", "    b"], ["    c"]])
        self.check(4, code(*[""] * 30, "a", *[""] * 30), [["    a"]])
        self.check(4, code(*[""] * 250, "a"), [["    a"]])

    def test_lines_that_are_not_empty_stay(self):
        self.check(4, '(bullets (item)) (quote (code "" "\\n\\n\\n\\n\\n"))', [["- ", "", ">", ">"], [">", ">", ">",
                                                                                                      ">"]])
        self.check(4, code(" ", "a", "b", "c", " "), [["     ", "    a", "    b", "    c"], ["     "]])

    def test_a_page_of_free_lines_and_one_of_empty_lines(self):
        self.check(4, code("a", "b", "c", "d", "", "", ""), [["    a", "    b", "    c", "    d"]])

    # Kept lines

    def test_headings_are_kept(self):
        # Between items there is no empty line after the heading.
        for level, lines in ((1, ["- h", "  ="]), (2, ["- h", "  -"]), (3, ["- h"]), (6, ["- h"])):
            tree = code("x", "y") + f'(bullets (item (heading {level} "" "h")) (item (para "a")))'
            self.check(len(lines) + 3, tree, [["    x", "    y"], lines + ["- a"]])

    def test_the_empty_line_after_a_kept_line_is_free(self):
        tree = code("a", "b") + '(heading 3 "" "h") ' + code("c", "d")
        self.check(4, tree, [["    a", "    b", "", "h"], ["    c", "    d"]])

    def test_a_kept_line_is_not_the_last_one(self):
        # The page after the table's first row would be full, but its lines are kept.
        row = '(row (cell "{}"))'
        rows = " ".join(row.replace("{}", letter) for letter in "abcd")
        tree = code("x", "y") + f'(table "" (caption) (align none) {rows})'
        self.check(4, tree, [["    x", "    y"], ["a", "-", "b", "c"], ["d"]])

    def test_kept_lines_of_paragraphs(self):
        # The first line and the last but one are kept.
        tree = code("x") + '(para "a" (break) "b" (break) "c" (break) "d" (break) "e")'
        self.check(4, tree, [["    x", "", "a", "b"], ["c", "d", "e"]])
        tree = code("x", "y") + '(para "a" (break) "b" (break) "c" (break) "d" (break) "e")'
        self.check(4, tree, [["    x", "    y"], ["a", "b", "c"], ["d", "e"]])
        tree = code("x", "y") + '(para "a" (break) "b")'
        self.check(4, tree, [["    x", "    y"], ["a", "b"]])
        tree = code("x", "y") + '(para "a") (para "b")'
        self.check(4, tree, [["    x", "    y", "", "a"], ["b"]])

    def test_terms_are_kept(self):
        tree = code("x", "y") + '(terms (term ("a") (para "b")))'
        self.check(4, tree, [["    x", "    y"], ["a", "    b"]])
        tree = code("x", "y") + '(terms (term () (para "a")) (term ("b") (para "c")))'
        self.check(4, tree, [["    x", "    y", "", "    a"], ["b", "    c"]])

    def test_figures_are_kept_to_their_captions(self):
        self.check(4, code("x", "y") + '(figure "" "a" "b")', [["    x", "    y"], ["[a]", "b"]])
        tree = code("x", "y") + '(bullets (item (figure "" "a" {})) (item (para "b")))'
        self.check(4, tree.replace("{}", ""), [["    x", "    y", "", "- [a]"], ["- b"]])
        # The caption has no lines, but it isn't an empty list.
        for caption in ('""', "(emph)", "(break)"):
            self.check(4, tree.replace("{}", caption), [["    x", "    y"], ["- [a]", "- b"]])

    def test_captions_are_not_kept(self):
        self.check(4, code("x") + '(figure "" "a" "b" (break) "c" (break) "d")', [["    x", "", "[a]", "b"], ["c",
                                                                                                              "d"]])

    def test_lines_stay_kept_within_other_blocks(self):
        for begin, end, first, others in (("(quote ", ")", "> ", "> "), ("(bullets (item ", "))", "- ", "  "),
                                          ("(numbers 1 (item ", "))", "1. ", "   "), ("(group (class)", ")", "", ""),
                                          ("(terms (term () ", "))", "    ", "    ")):
            tree = code("x", "y") + begin + '(para "a" (break) "b")' + end
            self.check(4, tree, [["    x", "    y"], [first + "a", others + "b"]])

    def test_a_kept_line_costs_1000(self):
        # One line is too many: either the first one is alone, or the page is full and ends with a kept line.
        for size in (3, 30, 31, 32, 33):
            term = "(break)".join(['"h"'] * size)
            tree = f'(terms (term () (para "a")) (term ({term}) (para "b")))'
            if size ** 2 < 1000:
                self.check(size + 1, tree, [["    a"], ["h"] * size + ["    b"]])
            else:
                self.check(size + 1, tree, [["    a"] + ["h"] * size, ["    b"]])

    def test_the_last_line_of_the_document_may_be_kept(self):
        self.check(4, code("a", "b") + '(heading 3 "" "h")', [["    a", "    b", "", "h"]])
        self.check(4, '(heading 3 "" "h")', [["h"]])

    def test_kept_empty_lines(self):
        # The underline of a heading without lines is an empty line, and kept.
        tree = code("a", "b", "c") + '(heading 1 "")' + code("d")
        self.check(4, tree, [["    a", "    b", "    c"], ["    d"]])

    def test_only_kept_lines(self):
        self.check(4, '(heading 3 "" "a\\nb\\nc\\nd\\ne\\nf")', [["a", "b", "c", "d"], ["e", "f"]])

    # Notes

    def test_a_note(self):
        tree = '(para "a" (noteref "n")) (note "n" (para "b"))'
        self.check(4, tree, [["a[n]", "", "-----", "[n] b"]])
        self.check(6, tree, [["a[n]", "", "", "", "-----", "[n] b"]])
        self.check(60, tree, [["a[n]"] + [""] * 57 + ["-----", "[n] b"]])

    def test_a_note_may_stand_anywhere(self):
        for tree in ('(note "n" (para "b")) (para "a[n]")', '(para "a[n]" ) (quote (note "n" (para "b")))',
                     '(para "a[n]") (bullets (item (para "x") (note "n" (para "b"))))',
                     '(para "a[n]") (numbers 1 (item (para "x") (note "n" (para "b"))))',
                     '(para "a[n]") (terms (term ("x") (group (class) (note "n" (para "b")))))',
                     '(para "a[n]") (note "m" (para "c") (quote (note "n" (para "b"))))'):
            answer = pages(20, 10, 0, [], reference.octets(tree))
            self.assertTrue(bytes(answer[1:]).endswith(b"\n-----\n[n] b"), tree)

    def test_a_note_that_is_not_referred_to(self):
        self.check(4, '(para "a") (note "n" (para "b"))', [["a"]])
        self.check(4, '(para "[m] n [ n] [n ] (n) [N]") (note "n" (para "b"))', [["[m] n [ n] [n ] (n)", "[N]"]])

    def test_references_without_a_note(self):
        self.check(4, '(para "a" (noteref "n"))', [["a[n]"]])

    def test_any_text_in_brackets_refers_to_a_note(self):
        for tree, shown in (('(para "[n]")', "[n]"), ('(para (code "x[n]y"))', "x[n]y"), ('(para (cite "n"))', "[n]"),
                            ('(code "" "a[n]")', "    a[n]"), ('(figure "" "n")', "[n]"), ('(para "[[n]]")', "[[n]]"),
                            ('(formula "" "[x[n]")', "    [x[n]"), ('(figure "" "a[n]\\nb")', "[a[n]\nb]"),
                            ('(para "[" (ref "n") "]")', "[n]"), ('(para "]n][n]")', "]n][n]"),
                            ('(quote (para "[n]"))', "> [n]"), ('(bullets (item (para "[n]")))', "- [n]"),
                            ('(terms (term ("[n]")))', "[n]"), ('(heading 3 "" "[n]")', "[n]"),
                            ('(para "[a][n][b]")', "[a][n][b]"), ('(para "a]b [n")', None), ('(para "[n, m]")', None),
                            ('(para (cite "n" "m"))', None), ('(para "[nn]")', None), ('(para "[ n]")', None)):
            answer = pages(20, 4, 0, [], reference.octets(tree + '(note "n" (para "b"))'))
            if shown is None:
                self.assertFalse(bytes(answer[1:]).endswith(b"[n] b"), tree)
            else:
                self.assertEqual(answer, reference.as_answer([shown, "", "-----", "[n] b"]), tree)

    def test_a_reference_that_is_divided_is_none(self):
        tree = '(para "aaaaaaaa[n-m]") (note "n-m" (para "b"))'
        self.check(5, tree, [["aaaaaaaa[n-m]", "", "", "-----", "[n-m] b"]])
        self.check(5, tree, [["aaaaaaaa[n-", "m]"]], 12)

    def test_the_lines_of_a_note(self):
        tree = '(para "[n]") (note "n" (para "b" (break) "c") (para "d") (bullets (item (para "e"))))'
        self.check(10, tree, [["[n]", "", "", "-----", "[n] b", "    c", "", "    d", "", "    - e"]])
        self.check(4, '(para "[n]") (note "n" (code "" "a\\n\\nb"))', [["[n]", "-----", "[n]     a", "", "        b"]])

    def test_a_note_without_lines(self):
        for inner in ("", "(para)", '(note "m" (para "x"))', "(group (class))", '(code "" "")'):
            self.check(4, f'(para "[n]") (note "n" {inner})', [["[n]", "", "-----", "[n] "]])

    def test_a_note_that_begins_with_an_empty_line(self):
        self.check(5, '(para "[n]") (note "n" (code "" "\\na"))', [["[n]", "", "-----", "[n] ", "        a"]])
        self.check(4, '(para "[n]") (note "n" (heading 1 ""))', [["[n]", "", "-----", "[n] "]])

    def test_the_width_of_a_note(self):
        self.check(4, '(para "[n]") (note "n" (rule))', [["[n]", "", "-----", "[n] " + "-" * 16]])
        self.check(4, '(para "[long]") (note "long" (rule))', [["[long]", "", "-----", "[long] " + "-" * 13]])
        self.check(4, '(para "[n]") (note "n" (rule))', [["[n]", "", "-----", "[n] " + "-" * 10]], 10)
        self.check(4, '(para "[n]") (note "n" (rule))', [["[n]", "", "-----", "[n] " + "-" * 10]], 14)
        self.check(4, '(para "[n]") (note "n" (rule))', [["[n]", "", "-----", "[n] " + "-" * 11]], 15)
        label = "n" * 40
        self.check(4, f'(para "[{label}]") (note "{label}" (rule))',
                   [[f"[{label}]", "", "-----", f"[{label}] " + "-" * 37]], 80)
        self.check(4, f'(quote (para "[n]") (note "n" (rule)))', [["> [n]", "", "-----", "[n] " + "-" * 16]])

    def test_notes_are_justified(self):
        tree = '(para "[n]") (note "n" (para "aa bb ccc dd e f"))'
        self.check(5, tree, [["[n]", "", "-----", "[n] aa bb ccc", "    dd e f"]], 14)
        self.check(5, tree, [["[n]", "", "-----", "[n] aa  bb ccc", "    dd e f"]], 14, 1)

    def test_a_note_that_is_referred_to_several_times(self):
        note = '(note "n" (para "b"))'
        self.check(6, '(para "[n][n] [n]" (break) "[n]")' + note, [["[n][n] [n]", "[n]", "", "", "-----", "[n] b"]])
        # Only on the page of the first reference.
        self.check(4, '(para "[n]") (para "a") (para "[n]")' + note, [
            ["[n]", "", "-----", "[n] b"], ["a", "", "[n]"]])
        self.check(4, note + code("[n]", "a", "b", "c", "[n]"), [
            ["    [n]", "    a", "-----", "[n] b"], ["    b", "    c", "    [n]"]])

    def test_the_order_of_notes(self):
        # In the order of the lines, and within a line in the order of the notes.
        notes = '(note "a" (para "x")) (note "b" (para "y")) (note "c" (para "z"))'
        self.check(8, '(para "[c]" (break) "[b][a]")' + notes, [
            ["[c]", "[b][a]", "", "", "-----", "[c] z", "[a] x", "[b] y"]])
        self.check(6, notes + '(para "[c] [b] [a] [b]")', [["[c] [b] [a] [b]", "", "-----", "[a] x", "[b] y", "[c] z"]])

    def test_the_order_of_notes_within_others(self):
        notes = '(note "a" (quote (note "b" (para "y"))) (para "x")) (note "c")'
        self.check(7, '(para "[c][b][a]")' + notes, [["[c][b][a]", "", "", "-----", "[a] x", "[b] y", "[c] "]])

    def test_the_order_of_notes_in_a_table(self):
        # One cell after another, within a cell in the order of the notes.
        notes = '(note "a") (note "b") (note "c") (note "d")'
        tree = '(table "" (caption) (align none none) (row (cell "[d][c]") (cell "[b][c][a]")))'
        self.check(8, notes + tree, [
            ["[d][c] | [b][c][a]", "-------+----------", "", "-----", "[c] ", "[d] ", "[a] ", "[b] "]])
        self.check(8, notes + "(quote " + tree + ")", [
            ["> [d][c] | [b][c][a]", "> -------+----------", "", "-----", "[c] ", "[d] ", "[a] ", "[b] "]], 22)

    def test_notes_in_cells_of_several_lines(self):
        notes = '(note "a") (note "b") (note "c") (note "d")'
        tree = '(table "" (caption) (align none none) (row (cell "[d]" (break) "[b]") (cell "[c]" (break) "[a]")))'
        self.check(9, notes + tree, [
            ["[d] | [c]", "[b] | [a]", "----+----", "", "-----", "[d] ", "[c] ", "[b] ", "[a] "]])

    def test_notes_in_captions(self):
        tree = '(table "" (caption "[b][a]") (align none) (row (cell "x")))(note "a")(note "b")'
        self.check(7, tree, [["x", "-", "", "[b][a]", "-----", "[a] ", "[b] "]])

    def test_of_notes_with_the_same_label_the_first_one(self):
        self.check(4, '(note "n" (para "a")) (para "[n]") (note "n" (para "b"))', [["[n]", "", "-----", "[n] a"]])
        self.check(4, '(para "[n]") (quote (note "n" (para "a"))) (note "n" (para "b"))', [["[n]", "", "-----",
                                                                                            "[n] a"]])
        self.check(4, '(para "[n]") (note "n" (para "a") (note "n" (para "b")))', [["[n]", "", "-----", "[n] a"]])
        self.check(6, '(para "[n][m]") (note "n" (para "a")) (note "m" (para "b")) (note "n" (para "c"))', [
            ["[n][m]", "", "", "-----", "[n] a", "[m] b"]])

    def test_references_within_notes(self):
        # What a note refers to isn't in the lines of the document.
        self.check(4, '(para "[n]") (note "n" (para "[m]")) (note "m" (para "b"))', [["[n]", "", "-----", "[n] [m]"]])
        self.check(4, '(para "[n]") (note "n" (para "[n]"))', [["[n]", "", "-----", "[n] [n]"]])

    def test_notes_take_room(self):
        note = '(note "n" (para "x"))'
        self.check(4, note + code("a[n]", "b", "c"), [["    a[n]", "    b", "-----", "[n] x"], ["    c"]])
        self.check(4, note + code("a", "b", "c[n]"), [["    a", "    b"], ["    c[n]", "", "-----", "[n] x"]])
        self.check(5, note + code("a", "b", "c[n]"), [["    a", "    b", "    c[n]", "-----", "[n] x"]])

    def test_two_notes_share_the_line_ahead_of_them(self):
        notes = '(note "n" (para "x")) (note "m" (para "y"))'
        self.check(5, notes + code("[n]", "[m]"), [["    [n]", "    [m]", "-----", "[n] x", "[m] y"]])
        self.check(4, notes + code("[n]", "[m]"), [["    [n]", "", "-----", "[n] x"], ["    [m]", "", "-----",
                                                                                       "[m] y"]])

    def test_a_foot_that_is_longer_than_the_height(self):
        note = '(note "n" (para "a\\nb\\nc\\nd"))'
        foot = ["-----", "[n] a", "    b", "    c", "    d"]
        self.check(4, note + '(para "[n]")', [["[n]"] + foot])
        self.check(4, note + code("x", "[n]", "y"), [["    x"], ["    [n]"] + foot, ["    y"]])
        self.check(4, note + code("", "[n]", "", "y"), [["    [n]"] + foot, ["    y"]])
        self.check(6, note + code("x", "[n]", "y"), [["    x"], ["    [n]"] + foot, ["    y"]])
        self.check(7, note + code("x", "[n]", "y"), [["    x", "    [n]"] + foot, ["    y"]])

    def test_a_long_foot_of_a_kept_line(self):
        tree = '(note "n" (para "a\\nb\\nc\\nd")) (para "[n]" (break) "x")'
        self.check(4, tree, [["[n]", "-----", "[n] a", "    b", "    c", "    d"], ["x"]])

    def test_notes_do_not_depend_on_the_pages_ahead(self):
        tree = '(note "n" (para "x"))' + code("a", "[n]", "[n]", "b", "[n]", "c", "d")
        self.check(4, tree, [["    a", "    [n]", "-----", "[n] x"], ["    [n]", "    b", "    [n]", "    c"],
                             ["    d"]])

    # Figures and other lines

    def test_a_target_with_line_feeds_is_one_line(self):
        tree = '(figure "" "a\\nb\\nc\\nd\\ne\\nf") (para "x") '
        self.check(4, tree, [["[a\nb\nc\nd\ne\nf]", "", "x"]])

    def test_the_requirement_that_no_line_is_lost(self):
        chosen = random.Random(82)
        for _ in range(300):
            tree = chance.Writer(chosen).tree(blocks=20)
            width, height, justified = chosen.randint(10, 40), chosen.randint(4, 12), chosen.randint(0, 1)
            document = reference_documents.Document(width, justified, "", reference.octets(tree))
            answer = pages(width, height, justified, [], reference.octets(tree))
            shown = bytes(answer[1:]).decode("utf-8").split("\n")
            at = 0
            for line in document.lines:
                for text in line.text.split("\n") if line.text else []:
                    at = shown.index(text, at) + 1

    # Against a second way

    def test_short_documents_against_all_divisions(self):
        chosen = random.Random(83)
        several = 0
        for _ in range(1500):
            tree = chance.Writer(chosen).tree(blocks=5)
            width, height = chosen.choice([10, 12, 20, 40]), chosen.choice([4, 4, 4, 5, 6])
            justified = chosen.randint(0, 1)
            document = reference_documents.Document(width, justified, "b1", reference.octets(tree))
            if 0 < len(document.lines) <= 12:
                best = document.pages_of_all(height)
                several += len(best) > 1
                answer = pages(width, height, justified, reference.octets("b1"), reference.octets(tree))
                self.assertEqual(answer, reference_documents.pages_answer(height, best), (width, height, tree))
        self.assertGreater(several, 150)

    def test_documents_against_the_reference(self):
        chosen = random.Random(84)
        for _ in range(800):
            tree = chance.Writer(chosen).tree(blocks=20)
            width, height = chosen.choice([10, 12, 20, 80]), chosen.choice([4, 5, 6, 8, 12, 60])
            justified = chosen.randint(0, 1)
            patterns = chosen.choice(["", "b1", "1a b2c"])
            document = reference_documents.Document(width, justified, patterns, reference.octets(tree))
            wanted = reference_documents.pages_answer(height, document.pages(height))
            answer = pages(width, height, justified, reference.octets(patterns), reference.octets(tree))
            self.assertEqual(answer, wanted, (width, height, justified, patterns, tree))

    def test_lines_and_notes_against_the_reference(self):
        chosen = random.Random(85)
        for _ in range(400):
            notes = "".join(f'(note "{label}" {code(*chosen.choice(["", "a", "ab", "abc"]))})'
                            for label in chosen.sample("abcd", 3))
            blocks = "".join(chosen.choice(["", '(para "a" (break) "[a]")', '(heading 3 "" "x")', "(rule)"]) + code(*[
                chosen.choice(["", "", "x", "y", "[a]", "[b]", "[c]", "[d]"]) for _ in range(chosen.randint(1, 12))])
                for _ in range(chosen.randint(1, 3)))
            height = chosen.choice([4, 4, 5, 6, 7, 9])
            document = reference_documents.Document(10, 0, "", reference.octets(notes + blocks))
            wanted = reference_documents.pages_answer(height, document.pages(height))
            answer = pages(10, height, 0, [], reference.octets(notes + blocks))
            self.assertEqual(answer, wanted, (height, notes + blocks))

    def test_long_trees(self):
        for begin, unit, end in (("", "(rule)", ""), ('(code "" "', "\\n", '")'), ('(code "" "', "a\\n", '")'),
                                 ("(bullets", "(item)", ")"), ('(para "', "a\\n", '")'),
                                 ('(note "a" (rule)) (code "" "', "[a]\\n[b]", '") (note "b")'),
                                 ('(code "" "[a]")', '(note "a")', ""), ('(table""(caption)(align none)',
                                                                         "(row(cell))", ")"),
                                 ("", '(heading 1"")', "")):
            tree = begin + unit * ((600 - len(begin) - len(end)) // len(unit)) + end
            document = reference_documents.Document(10, 0, "", reference.octets(tree))
            for height in (4, 60) if len(document.lines) < 150 else (4,):
                wanted = reference_documents.pages_answer(height, document.pages(height))
                self.assertEqual(pages(10, height, 0, [], reference.octets(tree)), wanted, (height, tree))


if __name__ == "__main__":
    unittest.main()
