"""Operation 7: layout."""

import random
import unittest

import chance
import reference
import reference_documents
from plainlayout.typesetting import layout

STYLES = ("emph", "strong", "strike", "super", "sub", "caps")


def table(align, *rows, caption=""):
    """A table of cells that are written as they are in the notation."""
    cells = " ".join("(row " + " ".join(f"(cell {cell})" for cell in row) + ")" for row in rows)
    return f'(table "" (caption {caption}) (align {align}) {cells})'


class LayoutTest(unittest.TestCase):
    def check(self, width, tree, lines, justified=0, patterns=""):
        octets = reference.octets(tree)
        self.assertLessEqual(len(octets), 600)
        answer = layout(width, justified, reference.octets(patterns), octets)
        self.assertEqual(answer, reference.as_answer(lines), (width, tree))
        self.assertIs(type(answer), list)
        for number in answer:
            self.assertIs(type(number), int)

    def check_both(self, width, tree, lines, patterns=""):
        self.check(width, tree, lines, 0, patterns)
        self.check(width, tree, lines, 1, patterns)

    def test_example(self):
        self.check_both(20, '(heading 1 "" "T") (bullets (item (para "a")))', ["T", "=", "", "- a"])

    def test_the_form_of_the_answer(self):
        self.assertEqual(layout(10, 0, [], reference.octets('(para "a")')), [1, 97])
        self.assertEqual(layout(10, 0, [], reference.octets('(para "a" (break) "\u00e9")')), [4, 97, 10, 0xC3, 0xA9])
        self.assertEqual(layout(10, 0, [], []), [0])

    def test_no_lines(self):
        for tree in ("(para)", '(para "")', '(para " \\n\\t ")', "(para (break))", "(para (emph))", '(heading 3 "")',
                     '(heading 6 "" " ")', '(code "" "")', '(formula "" "")', '(code "a" "")', "(quote)",
                     "(quote (para))", "(quote (quote))", "(terms (term ()))", '(terms (term (" ") (para)) (term ()))',
                     "(group (class))", '(group (class "a") (para))', '(note "a")', '(note "a" (para "a"))',
                     '(note "a" (rule) (note "b" (rule)))'):
            self.check_both(10, tree, [])
            self.check_both(10, f"(quote {tree})", [])
            self.check_both(10, f"(bullets (item {tree}))", ["- "])
            self.check_both(10, f"(numbers 7 (item {tree}))", ["7. "])
            self.check_both(10, f'(terms (term ("t") {tree}))', ["t"])
            self.check_both(10, f"(group (class) {tree})", [])
            self.check_both(10, f"(rule) {tree} (rule) {tree}", ["-" * 10, "", "-" * 10])
            self.check_both(10, f"{tree} {tree} (rule)", ["-" * 10])

    # Inline elements

    def test_texts_follow_one_another(self):
        self.check_both(20, '(para "a" "b" " c" "d ")', ["ab cd"])
        self.check_both(20, '(para "a " " " " b")', ["a b"])

    def test_codes_and_math_are_texts(self):
        self.check_both(20, '(para "a" (code "b  c") (math " d"))', ["ab c d"])
        self.check_both(20, '(para (code "a\\nb") (math "c\\nd"))', ["a", "bc", "d"])

    def test_line_breaks(self):
        self.check_both(20, '(para "a" (break) "b")', ["a", "b"])
        self.check_both(20, '(para (break) (break) "a" (break) (break) (break) "b" (break))', ["a", "b"])
        self.check_both(20, '(para "a b" (break) " " (break) "c")', ["a b", "c"])

    def test_line_feeds_in_texts(self):
        self.check_both(20, '(para "a\\nb\\n\\n\\nc\\n")', ["a", "b", "c"])
        self.check_both(20, '(para "\\n\\na\\n \\t\\nb")', ["a", "b"])
        self.check_both(20, '(para "a\\u{a}b\\rc\\u{d}d\\te")'.replace("\\r", "\\u{d}"), ["a", "b c d e"])

    def test_references_and_citations(self):
        self.check_both(30, '(para "x" (noteref "n-1") "y")', ["x[n-1]y"])
        self.check_both(30, '(para "x" (ref "sec:2") "y")', ["xsec:2y"])
        self.check_both(30, '(para "x" (cite "a") "y")', ["x[a]y"])
        self.check_both(30, '(para "x" (cite "a" "b" "c.d") "y")', ["x[a, b, c.d]y"])
        self.check_both(10, '(para (cite "aaaa" "bbbb" "cccc"))', ["[aaaa,", "bbbb,", "cccc]"])

    def test_styled_elements(self):
        for style in STYLES:
            self.check_both(20, f'(para "a" ({style}) ({style} "b" (break) "c") "d")', ["ab", "cd"])
            self.check_both(20, f'(para ({style} ({style} "a" ({style} "b")) "c"))', ["abc"])

    def test_links_images_and_spans(self):
        self.check_both(20, '(para "a" (link "target" "b" (emph "c")) (link "x") "d")', ["abcd"])
        self.check_both(20, '(para "a" (image "target" "b" (break)) (image "x") "d")', ["ab", "d"])
        self.check_both(20, '(para "a" (span (class "x" "y") "b" (ref "c")) (span (class)) "d")', ["abcd"])

    def test_words_go_on_from_one_element_to_the_next(self):
        self.check_both(10, '(para "aaaa" (emph "aaaa" (strong "aa")) " b")', ["aaaaaaaaaa", "b"])
        self.check_both(10, '(para "aaaa" (emph "aaab") "cccc")', ["aaaaaaab-", "cccc"], "b1c")

    # Paragraphs

    def test_paragraphs(self):
        self.check(10, '(para "one two three")', ["one two", "three"])
        self.check(10, '(para "aaaaa bbb ccc ddddddd")', ["aaaaa", "bbb ccc", "ddddddd"])
        self.check(10, '(para "aaaaaa-bbbbbb")', ["aaaaaa-", "bbbbbb"])
        self.check(10, '(para "a") (para "b")', ["a", "", "b"])

    def test_each_part_between_line_feeds_is_divided_by_itself(self):
        # The last line of each part costs nothing.
        self.check(10, '(para "aaa bbb ccc d\\naaa bbb ccc d")', ["aaa bbb", "ccc d"] * 2)
        self.check(10, '(para "aaaaaaaa\\nb")', ["aaaaaaaa", "b"])

    def test_justified_paragraphs(self):
        tree = '(para "aa bb ccc dd e f")'
        self.check(10, tree, ["aa bb ccc", "dd e f"])
        self.check(10, tree, ["aa  bb ccc", "dd e f"], 1)
        tree = '(para "aaaa bbb cccc dd" (break) "a b")'
        self.check(10, tree, ["aaaa bbb", "cccc dd", "a b"])
        self.check(10, tree, ["aaaa   bbb", "cccc dd", "a b"], 1)
        self.check(10, '(para "a b\\nc d\\ne f")', ["a b", "c d", "e f"], 1)

    def test_justified_lines_that_stay(self):
        self.check(10, '(para "aaaaaaa bbbbbbb")', ["aaaaaaa", "bbbbbbb"], 1)
        self.check(10, '(para "aaaaaaaaaaaaaa b c")', ["aaaaaaaaaaaaaa", "b c"], 1)
        self.check(10, '(para "aaaa bbbbb c")', ["aaaa bbbbb", "c"], 1)

    def test_justified_lines_with_hyphens(self):
        self.check(10, '(para "a b bbacccccccc")', ["a  b  bba-", "cccccccc"], 1, "a1c")
        self.check(12, '(para "a b cc-dddd eeeeee")', ["a  b cc-dddd", "eeeeee"], 1)
        self.check(10, '(para "a aa-bbbbbb cc")', ["a      aa-", "bbbbbb cc"], 1)

    def test_patterns(self):
        self.check(10, '(para "aaaaaaabcccccc")', ["aaaaaaab-", "cccccc"], 0, "aab1c")
        self.check(10, '(heading 3 "" "aaaaaaabcccccc")', ["aaaaaaab-", "cccccc"], 0, "aab1c")
        self.check(10, '(figure "" "aaaaaaabcccccc" "aaaaaaabcccccc")', ["[aaaaaaabcccccc]", "aaaaaaab-", "cccccc"],
                   0, "aab1c")
        self.check(10, '(code "" "aaaaaaabcccccc")', ["    aaaaaaabcc", "    cccc"], 0, "aab1c")

    # Headings

    def test_headings(self):
        self.check_both(20, '(heading 1 "" "abc")', ["abc", "==="])
        self.check_both(20, '(heading 2 "" "abc")', ["abc", "---"])
        for level in range(3, 7):
            self.check_both(20, f'(heading {level} "" "abc")', ["abc"])

    def test_headings_of_several_lines(self):
        self.check_both(10, '(heading 1 "" "aaaaa bbb ccc ddddddd")', ["aaaaa", "bbb ccc", "ddddddd", "======="])
        self.check_both(10, '(heading 2 "" "aaa\\n\\nb" (break) "cc")', ["aaa", "b", "cc", "---"])
        self.check_both(10, '(heading 4 "id" "a" (break) "b")', ["a", "b"])
        self.check_both(10, '(heading 2 "" "aaaaaaaaaaaaa b")', ["aaaaaaaaaaaaa", "b", "-" * 13])

    def test_headings_are_never_justified(self):
        for level in range(3, 7):
            self.check_both(10, f'(heading {level} "" "aa bb ccc dd e f")', ["aa bb ccc", "dd e f"])
        self.check_both(10, '(heading 1 "" "aa bb ccc dd e f")', ["aa bb ccc", "dd e f", "=" * 9])

    def test_headings_without_a_line(self):
        for level in (1, 2):
            for text in ("", '" "', "(break)", '"\\n\\n"'):
                self.check_both(10, f'(heading {level} "" {text})', [""])
                self.check_both(10, f'(rule) (heading {level} "" {text}) (rule)', ["-" * 10, "", "", "", "-" * 10])
                self.check_both(10, f"(quote (heading {level} \"\" {text}))", [">"])
                self.check_both(10, f"(bullets (item (heading {level} \"\" {text})))", ["- "])
                self.check_both(10, f'(terms (term ("a") (heading {level} "" {text})))', ["a", ""])
        self.check_both(10, '(heading 1 "") (heading 2 "")', ["", "", ""])

    def test_the_underline_counts_characters(self):
        self.check_both(10, '(heading 1 "" "\u00e9\u20ac\U0001f600")', ["\u00e9\u20ac\U0001f600", "==="])

    # Codes and formulas

    def test_codes_and_formulas(self):
        for name in ("code", "formula"):
            self.check_both(20, f'({name} "" "a")', ["    a"])
            self.check_both(20, f'({name} "x" "a b\\n  c  d\\n")', ["    a b", "      c  d", ""])
            self.check_both(20, f'({name} "" "\\n")', ["", ""])
            self.check_both(20, f'({name} "" "\\n\\na\\n\\n\\nb")', ["", "", "    a", "", "", "    b"])
            self.check_both(20, f'({name} "" " ")', ["     "])
            self.check_both(20, f'({name} "" "a\\tb ")', ["    a\tb "])

    def test_long_lines_of_codes(self):
        for name in ("code", "formula"):
            self.check_both(20, f'({name} "" "{"a" * 16}")', ["    " + "a" * 16])
            self.check_both(20, f'({name} "" "{"a" * 17}")', ["    " + "a" * 16, "    a"])
            self.check_both(20, f'({name} "" "{"a" * 40}\\nb")',
                            ["    " + "a" * 16, "    " + "a" * 16, "    " + "a" * 8, "    b"])
            self.check_both(20, f'({name} "" "{"a b " * 8}")',
                            ["    " + "a b " * 4, "    " + "a b " * 4])
            self.check_both(80, f'({name} "" "{"a" * 77}")', ["    " + "a" * 76, "    a"])
            self.check_both(20, f'({name} "" "{chr(0x20ac) * 17}")', ["    " + chr(0x20ac) * 16, "    " + chr(0x20ac)])

    def test_parts_of_codes_are_at_least_10_wide(self):
        for width in range(10, 15):
            self.check_both(width, f'(code "" "{"a" * 11}")', ["    " + "a" * 10, "    a"])
        self.check_both(15, f'(code "" "{"a" * 11}")', ["    " + "a" * 11])
        self.check_both(13, f'(quote (code "" "{"a" * 11}"))', [">     " + "a" * 10, ">     a"])

    def test_empty_lines_of_codes_are_not_indented(self):
        self.check_both(20, '(code "" "a\\n\\nb")', ["    a", "", "    b"])
        self.check_both(20, '(quote (code "" "a\\n\\nb"))', [">     a", ">", ">     b"])
        self.check_both(20, '(bullets (item (code "" "a\\n\\nb")))', ["-     a", "", "      b"])
        self.check_both(20, '(terms (term () (code "" "a\\n\\nb")))', ["        a", "", "        b"])

    # Rules and quotes

    def test_rules(self):
        for width in range(10, 81):
            self.check_both(width, "(rule)", ["-" * width])
        self.check_both(20, "(rule) (rule)", ["-" * 20, "", "-" * 20])

    def test_rules_have_the_width_of_their_blocks(self):
        self.check_both(20, "(quote (rule))", ["> " + "-" * 18])
        self.check_both(20, "(quote (quote (rule)))", ["> > " + "-" * 16])
        self.check_both(20, "(bullets (item (rule)))", ["- " + "-" * 18])
        self.check_both(20, "(numbers 10 (item (rule)))", ["10. " + "-" * 16])
        self.check_both(20, "(terms (term () (rule)))", ["    " + "-" * 16])
        self.check_both(20, "(group (class) (rule))", ["-" * 20])

    def test_inner_widths_are_at_least_10(self):
        self.check_both(10, "(quote (rule))", ["> " + "-" * 10])
        self.check_both(11, "(quote (rule))", ["> " + "-" * 10])
        self.check_both(13, "(quote (rule))", ["> " + "-" * 11])
        self.check_both(13, "(quote (quote (rule)))", ["> > " + "-" * 10])
        self.check_both(11, "(bullets (item (rule)))", ["- " + "-" * 10])
        self.check_both(13, "(bullets (item (rule)))", ["- " + "-" * 11])
        self.check_both(16, "(numbers 999999 (item (rule)))", ["999999. " + "-" * 10])
        self.check_both(19, "(numbers 999999 (item (rule)))", ["999999. " + "-" * 11])
        self.check_both(13, "(terms (term () (rule)))", ["    " + "-" * 10])
        self.check_both(15, "(terms (term () (rule)))", ["    " + "-" * 11])
        self.check_both(10, "(quote " * 15 + "(rule)" + ")" * 15, ["> " * 15 + "-" * 10])
        self.check(10, '(quote (para "aaaa bbbbb c"))', ["> aaaa bbbbb", "> c"])
        self.check(10, '(quote (para "aaa bbbb cc"))', ["> aaa   bbbb", "> cc"], 1)

    def test_quotes(self):
        self.check_both(20, '(quote (para "a"))', ["> a"])
        self.check_both(20, '(quote (para "a" (break) "b") (para "c"))', ["> a", "> b", ">", "> c"])
        self.check_both(20, '(quote (quote (para "a") (para "b")) (para "c"))', ["> > a", "> >", "> > b", ">", "> c"])
        self.check_both(20, '(quote (heading 1 "" "T") (bullets (item)))', ["> T", "> =", ">", "> - "])
        self.check(12, '(quote (para "aa bb ccc dd e f"))', ["> aa bb ccc", "> dd e f"])
        self.check(12, '(quote (para "aa bb ccc dd e f"))', ["> aa  bb ccc", "> dd e f"], 1)

    # Lists

    def test_bullet_lists(self):
        self.check_both(20, '(bullets (item (para "a")) (item (para "b")))', ["- a", "- b"])
        self.check_both(20, '(bullets (item (para "a" (break) "b") (para "c")))', ["- a", "  b", "", "  c"])
        self.check_both(20, '(bullets (item (bullets (item (para "a")) (item))))', ["- - a", "  - "])
        self.check_both(20, '(bullets (item (quote (para "a") (para "b"))))', ["- > a", "  >", "  > b"])

    def test_items_without_lines(self):
        self.check_both(20, "(bullets (item))", ["- "])
        self.check_both(20, '(bullets (item) (item (para)) (item (para "a")) (item (note "a" (rule))))',
                        ["- ", "- ", "- a", "- "])
        self.check_both(20, "(numbers 9 (item) (item (group (class))))", [" 9. ", "10. "])
        self.check_both(20, "(quote (bullets (item)))", ["> - "])
        self.check_both(20, "(bullets (item (bullets (item (numbers 0 (item))))))", ["- - 0. "])

    def test_an_item_that_begins_with_an_empty_line(self):
        self.check_both(20, '(bullets (item (code "" "\\na")))', ["- ", "      a"])
        self.check_both(20, '(numbers 1 (item (code "" "\\n\\n")))', ["1. ", "", ""])

    def test_numbered_lists(self):
        self.check_both(20, '(numbers 0 (item (para "a")) (item (para "b")))', ["0. a", "1. b"])
        self.check_both(20, '(numbers 5 (item (para "a" (break) "b") (para "c")))', ["5. a", "   b", "", "   c"])
        self.check_both(20, '(numbers 999999 (item (para "a")))', ["999999. a"])

    def test_numbers_of_different_lengths(self):
        self.check_both(20, '(numbers 9 (item (para "a" (break) "b")) (item (para "c" (break) "d")))',
                        [" 9. a", "    b", "10. c", "    d"])
        self.check_both(20, "(numbers 98 (item) (item) (item (rule)))", [" 98. ", " 99. ", "100. " + "-" * 15])
        self.check_both(20, "(numbers 999999 (item (rule)) (item))", [" 999999. " + "-" * 11, "1000000. "])
        self.check_both(20, "(numbers 1 " + "(item)" * 10 + ")", [f"{number:2}. " for number in range(1, 11)])
        self.check_both(20, "(numbers 0 " + "(item)" * 10 + ")", [f"{number}. " for number in range(10)])

    def test_the_width_of_numbered_lists(self):
        tree = '(numbers 9 (item (para "aa bb ccc dd e f")) (item))'
        self.check(14, tree, [" 9. aa bb ccc", "    dd e f", "10. "])
        self.check(14, tree, [" 9. aa  bb ccc", "    dd e f", "10. "], 1)

    def test_term_lists(self):
        self.check_both(20, '(terms (term ("a") (para "b")) (term ("c" (break) "d") (para "e") (para "f")))',
                        ["a", "    b", "c", "d", "    e", "", "    f"])
        self.check_both(20, '(terms (term ("a")) (term ()) (term ("b")))', ["a", "b"])
        self.check_both(20, '(terms (term () (para "a")) (term () (para "b")))', ["    a", "    b"])

    def test_terms_are_never_justified(self):
        self.check_both(10, '(terms (term ("aa bb ccc dd e f")))', ["aa bb ccc", "dd e f"])
        self.check(14, '(terms (term () (para "aa bb ccc dd e f")))', ["    aa bb ccc", "    dd e f"])
        self.check(14, '(terms (term () (para "aa bb ccc dd e f")))', ["    aa  bb ccc", "    dd e f"], 1)

    # Groups, notes and figures

    def test_groups(self):
        self.check_both(20, '(group (class "a") (para "a") (rule))', ["a", "", "-" * 20])
        self.check_both(20, '(group (class) (para "a")) (para "b")', ["a", "", "b"])
        self.check_both(20, '(group (class) (group (class) (para "a")) (para "b"))', ["a", "", "b"])

    def test_notes_have_no_lines(self):
        self.check_both(20, '(para "a") (note "n" (para "b")) (para (noteref "n"))', ["a", "", "[n]"])
        self.check_both(20, '(bullets (item (note "n" (para "b")) (para "a")))', ["- a"])

    def test_figures(self):
        self.check_both(20, '(figure "" "a.png")', ["[a.png]"])
        self.check_both(20, '(figure "f" "a" "b" (break) "c")', ["[a]", "b", "c"])
        self.check_both(20, '(figure "" "")', ["[]"])
        self.check_both(20, '(figure "" "" "")', ["[]"])
        self.check_both(10, '(figure "" "aaaa bbbb cccc dddd" "e")', ["[aaaa bbbb cccc dddd]", "e"])

    def test_line_feeds_in_the_target(self):
        self.check_both(20, '(figure "" "a\\nb" "c")', ["[a\nb]", "c"])
        self.check_both(20, '(figure "" "\\n\\n")', ["[\n\n]"])
        # It's one line, so that nothing is put after the line feed.
        self.check_both(20, '(quote (figure "" "a\\nb"))', ["> [a\nb]"])
        self.check_both(20, '(bullets (item (figure "" "a\\nb" "c")))', ["- [a\nb]", "  c"])

    def test_captions_are_justified(self):
        self.check(10, '(figure "" "a" "aa bb ccc dd e f")', ["[a]", "aa bb ccc", "dd e f"])
        self.check(10, '(figure "" "a" "aa bb ccc dd e f")', ["[a]", "aa  bb ccc", "dd e f"], 1)
        tree = table("none", [""], caption='"aa bb ccc dd e f"')
        self.check(10, tree, ["", "-", "", "aa bb ccc", "dd e f"])
        self.check(10, tree, ["", "-", "", "aa  bb ccc", "dd e f"], 1)

    # Blocks one after another

    def test_empty_lines_between_blocks(self):
        self.check_both(20, '(para "a") (para) (note "n") (quote) (para "b") (para)', ["a", "", "b"])
        self.check_both(20, '(para) (para "a")', ["a"])
        self.check_both(20, '(quote (para) (para "a") (para) (para "b"))', ["> a", ">", "> b"])
        self.check_both(20, '(bullets (item (para "a") (para) (para "b")))', ["- a", "", "  b"])
        self.check_both(20, '(terms (term () (para) (para "a") (para "b")))', ["    a", "", "    b"])
        self.check_both(20, '(code "" "a\\n") (code "" "\\nb")', ["    a", "", "", "", "    b"])

    def test_each_block_in_each_other(self):
        blocks = (('(para "a b")', ["a b"]), ('(heading 2 "" "a")', ["a", "-"]), ('(code "" "a\\nb")', ["    a",
                                                                                                        "    b"]),
                  ('(formula "" "a")', ["    a"]), ('(quote (para "a"))', ["> a"]), ("(bullets (item))", ["- "]),
                  ('(numbers 3 (item (para "a")))', ["3. a"]), ('(terms (term ("a") (para "b")))', ["a", "    b"]),
                  (table("none", ['"a"']), ["a", "-"]), ('(figure "" "a" "b")', ["[a]", "b"]),
                  ('(group (class) (para "a"))', ["a"]))
        for tree, lines in blocks:
            self.check_both(30, tree, lines)
            self.check_both(30, f"{tree} {tree}", lines + [""] + lines)
            self.check_both(30, f"(quote {tree})", ["> " + line for line in lines])
            self.check_both(30, f"(bullets (item {tree}))", ["- " + lines[0]] + ["  " + line for line in lines[1:]])
            self.check_both(30, f"(numbers 3 (item {tree}))", ["3. " + lines[0]] + ["   " + line for line in lines[1:]])
            self.check_both(30, f'(terms (term ("t") {tree}))', ["t"] + ["    " + line for line in lines])
            self.check_both(30, f"(group (class) {tree})", lines)
            self.check_both(30, f'(note "a" {tree})', [])

    # Tables

    def test_a_table(self):
        self.check_both(30, table("none none", ['"ab"', '"c"'], ['"d"', '"efg"']), ["ab | c", "---+----", "d  | efg"])
        self.check_both(30, table("none", ['"a"']), ["a", "-"])
        self.check_both(30, table("none", ['"a"'], ['"bb"'], ['"ccc"']), ["a", "---", "bb", "ccc"])

    def test_alignments(self):
        rows = (['"a"'] * 4, ['"bbbb"'] * 4, ['"cc"'] * 4)
        self.check_both(40, table("none left center right", *rows), [
            "a    | a    |  a   |    a", "-----+------+------+-----", "bbbb | bbbb | bbbb | bbbb",
            "cc   | cc   |  cc  |   cc"])
        self.check_both(40, table("right center left none", *rows), [
            "   a |  a   | a    | a", "-----+------+------+-----", "bbbb | bbbb | bbbb | bbbb",
            "  cc |  cc  | cc   | cc"])

    def test_the_smaller_part_of_the_free_space_is_at_the_left(self):
        self.check_both(40, table("center none", ['"a"', '"x"'], ['"bbb"', '""'], ['"cc"', '"x"'], ['"dddd"', '"x"']), [
            " a   | x", "-----+--", "bbb  |", " cc  | x", "dddd | x"])

    def test_spaces_at_the_end_are_left_out(self):
        self.check_both(40, table("left left", ['"aa"', '"bb"'], ['"a"', '"b"'], ['"a"', ""], ["", '"b"'], ["", ""]), [
            "aa | bb", "---+---", "a  | b", "a  |", "   | b", "   |"])
        self.check_both(40, table("center", ['"aaaa"'], ['"b"'], [""]), ["aaaa", "----", " b", ""])

    def test_empty_cells(self):
        self.check_both(10, table("none", [""]), ["", "-"])
        self.check_both(10, table("none", [""], [""]), ["", "-", ""])
        self.check_both(10, table("none none none", ["", '" "', "(break)"]), ["  |   |", "--+---+--"])
        self.check_both(10, "(quote " + table("none", [""], [""]) + ")", [">", "> -", ">"])
        self.check_both(10, "(bullets (item " + table("none", [""], [""]) + "))", ["- ", "  -", ""])

    def test_cells_of_several_lines(self):
        self.check_both(40, table("left right", ['"a" (break) "b"', '"ccc"'], ['"d"', '"e\\n\\nff\\ng"']), [
            "a | ccc", "b |", "--+----", "d |   e", "  |  ff", "  |   g"])

    def test_cells_are_divided_for_their_column(self):
        self.check_both(10, table("none none", ['"aaa bb cc d"', '"x"']), [
            "aaa bb | x", "cc d   |", "-------+--"])
        self.check_both(10, table("none none", ['"abc"', '"d e f g h"']), ["abc | d e", "    | f g", "    | h",
                                                                           "----+-----"])

    def test_cells_are_never_justified(self):
        # The first column is 7 wide.
        self.check_both(11, table("none none", ['"aa bb ccc dd e f"', '"x"']), [
            "aa bb   | x", "ccc dd  |", "e f     |", "--------+--"])

    def test_columns_that_become_wider(self):
        # 10 less 3 less the smallest widths, 3 and 1, is 3.
        self.check_both(10, table("none none", ['"abc"', '"d e f g h"']), ["abc | d e", "    | f g", "    | h",
                                                                           "----+-----"])
        self.check_both(15, table("none none", ['"abc"', '"d e f g h"']), ["abc | d e f g h", "----+----------"])
        self.check_both(80, table("none none", ['"abc"', '"d e f g h"']), ["abc | d e f g h", "----+----------"])

    def test_columns_that_cannot_become_wider(self):
        self.check_both(10, table("none none", ['"abcdefgh"', '"a b"']), ["abcdefgh | a", "         | b",
                                                                          "---------+--"])
        self.check_both(10, table("none", ['"abcdefghijklmno p"']), ["abcdefghijklmno", "p", "-" * 15])

    def test_pieces_in_columns(self):
        self.check_both(10, table("none none", ['"aabaab"', '"xxxxxx"']), ["aab- | xxxxxx", "aab  |",
                                                                           "-----+-------"], "b1a")
        self.check_both(10, table("none none", ['"aa-bbb"', '"xxxxxx"']), ["aa- | xxxxxx", "bbb |", "----+-------"])

    def test_many_columns(self):
        self.check_both(10, table("none " * 12, [""] * 12), ["  |" + "   |" * 10, "-" + "-+--" * 11])
        self.check_both(80, table("right " * 12, ['"a"'] * 12), [" | ".join("a" * 12), "-+-".join("-" * 12)])

    def test_captions_of_tables(self):
        self.check_both(20, table("none", ['"a"'], caption='"b" (break) "c"'), ["a", "-", "", "b", "c"])
        for caption in ("", '""', '" "', "(break)", "(emph)"):
            self.check_both(20, table("none", ['"a"'], caption=caption), ["a", "-"])
        self.check_both(20, "(quote " + table("none", ['"a"'], caption='"b"') + ")", ["> a", "> -", ">", "> b"])
        self.check_both(20, table("none", ['"a"'], caption='"b"') + "(rule)", ["a", "-", "", "b", "", "-" * 20])

    def test_tables_in_inner_widths(self):
        tree = table("none none", ['"abc"', '"d e f g h"'])
        self.check_both(17, f"(quote {tree})", ["> abc | d e f g h", "> ----+----------"])
        self.check_both(16, f"(quote {tree})", ["> abc | d e f g", ">     | h", "> ----+---------"])

    def test_characters_of_more_than_one_byte(self):
        for letter in ("\u00e9", "\u20ac", "\U0001f600", "\U0010ffff"):
            self.check(10, f'(para "{letter * 4} {letter * 5} {letter}")', [f"{letter * 4} {letter * 5}", letter])
            self.check(10, f'(para "{letter * 4} {letter * 3} {letter * 3}")',
                       [f"{letter * 4}   {letter * 3}", letter * 3], 1)
            self.check_both(20, table("right none", [f'"{letter * 2}"', '"a"'], [f'"{letter}"', '"a"']),
                            [f"{letter * 2} | a", "---+--", f" {letter} | a"])

    # Against a second way

    def check_reference(self, width, justified, patterns, tree):
        answer = layout(width, justified, reference.octets(patterns), reference.octets(tree))
        wanted = reference_documents.layout_answer(width, justified, patterns, tree)
        self.assertEqual(answer, wanted, (width, justified, patterns, tree))

    def test_documents_against_the_reference(self):
        chosen = random.Random(71)
        for _ in range(1200):
            self.check_reference(chosen.choice([10, 10, 11, 12, 14, 20, 30, 80]), chosen.randint(0, 1),
                                 chosen.choice(["", "b1", "1a b2c", "a1b c1c 1b"]), chance.Writer(chosen).tree())

    def test_long_trees(self):
        for begin, unit, end in (("", "(rule)", ""), ('(code "" "', "\\n", '")'), ('(code "" "', "a\\n", '")'),
                                 ("(bullets", "(item)", ")"), ("(numbers 999999", "(item)", ")"), ('(para "', "a ",
                                                                                                   '")'),
                                 ('(para "', "a-", '")'), ('(para "', "a\\n", '")'), ('(para "', "a", '")'),
                                 ('(heading 1 "" "', "a ", '")'), ("(para", "(break)", ")"), ('(para"', "\\u{a}", '")'),
                                 ('(table""(caption)(align none)', "(row(cell))", ")"), ("", '(heading 1"")', ""),
                                 ('(table""(caption)(align none none)(row(cell"b")(cell"', "a ", '")))')):
            tree = begin + unit * ((600 - len(begin) - len(end)) // len(unit)) + end
            for width in (10, 11, 80):
                for patterns in ("", "a1 " * 200):
                    self.check_reference(width, 1, patterns, tree)


if __name__ == "__main__":
    unittest.main()
