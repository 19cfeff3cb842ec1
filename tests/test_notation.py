"""The notation of documents: what is one, and what isn't (-20)."""

import random
import unittest

import chance
import reference
import reference_documents
from plainlayout.typesetting import layout, pages

LABEL_41 = "a" * 41

WRONG_LABELS = ("", "a b", "a,b", "[a]", "\\u{e9}", "\u00e9", "a\\n", " a", "a/b", "a;b", "a\\\\", "`", "{", "@", "~",
                LABEL_41, "a\\u{0}")
GOOD_LABELS = ("a", "Z", "0", "9", "-", "_", ".", ":", "a-b_c.d:e", "AZaz09", "a" * 40, "\\u{61}", "001", "-" * 40)

# One for each row of the table of expressions, and as many parts as can be.
WELL_FORMED = (
    "(para)", '(para "a")', '(para "a" "b" (break) (emph))',
    '(heading 1 "")', '(heading 6 "a" "x" (emph "y"))',
    '(code "" "")', '(code "python" "a\\nb")',
    '(formula "" "")', '(formula "f:1" "a")',
    "(rule)",
    "(quote)", '(quote (para) (rule) (quote))',
    "(bullets (item))", "(bullets (item (para) (rule)) (item) (item (bullets (item))))",
    "(numbers 0 (item))", "(numbers 999999 (item (rule)) (item))",
    "(terms (term ()))", '(terms (term ("a" (break)) (para) (rule)) (term ()) (term ("b")))',
    '(table "" (caption) (align none) (row (cell)))',
    '(table "t" (caption "a" (emph)) (align left center right none) (row (cell) (cell "a") (cell "a" "b") (cell)) '
    '(row (cell (break)) (cell) (cell) (cell)))',
    '(figure "" "")', '(figure "f" "a b" "x" (emph "y"))',
    "(group (class))", '(group (class "a" "b" "a") (para) (rule))',
    '(note "a")', '(note "a" (para) (rule))',
    '(para "")', '(para (code ""))', '(para (math "a b"))', "(para (break))",
    '(para (noteref "a"))', '(para (ref "a"))', '(para (cite "a"))', '(para (cite "a" "b" "a"))',
    "(para (emph) (strong) (strike) (super) (sub) (caps))",
    '(para (emph "a" "b") (strong (emph)) (strike "a") (super "a") (sub "a") (caps "a"))',
    '(para (link ""))', '(para (link "a b" "c" (break)))', '(para (image ""))', '(para (image "a" "c" (link "")))',
    "(para (span (class)))", '(para (span (class "a" "b") "c" (span (class))))',
)

# A part is missing, is one too many, or is of the wrong kind.
ILL_FORMED = (
    "()", "(())", '("para")', "(1)", '((para) "a")', "(paragraph)", "(pa ra)", "(paras)", "(inline)", "(item)",
    "(term ())", "(caption)", "(align none)", "(row)", "(cell)", '(class "a")', "(break)", '(emph "a")', '(ref "a")',
    '(noteref "a")', '(cite "a")', '(math "a")', '(link "a")', '(image "a")', "(span (class))",
    # paragraphs
    "(para 1)", "(para para)", "(para (para))", "(para (rule))", "(para ())", '(para ("a"))', "(para (item))",
    '(para (quote))', '(para (note "a"))', '(para (figure "" ""))', '(para (heading 1 ""))', "(para (emp))",
    '(para "a" b)', '(para (class "a"))',
    # headings
    "(heading)", "(heading 1)", '(heading "")', '(heading "" 1)', '(heading 0 "")', '(heading 7 "")',
    '(heading 10 "")', '(heading 1 1)', '(heading one "")', '(heading "1" "")', "(heading 1 ())", '(heading (1) "")',
    '(heading 1 "" 1)', '(heading 1 "" a)', '(heading 1 "" (para))', '(heading 1 a "x")',
    # codes and formulas
    "(code)", '(code "")', '(code "" "" "")', '(code "" a)', '(code a "")', '(code 1 "")', '(code "" 1)',
    '(code "" (code "a"))', '(code "a")', '(code "" "a" (break))',
    "(formula)", '(formula "")', '(formula "" "" "")', '(formula "" a)', '(formula 1 "")', '(formula "" 1)',
    '(formula () "")', '(formula "" ())',
    # rules
    '(rule "")', "(rule 1)", "(rule ())", "(rule (rule))", "(rule rule)",
    # quotes
    '(quote "a")', "(quote 1)", "(quote quote)", "(quote (emph))", "(quote ())", '(quote (code "a"))',
    "(quote (item))", '(quote (para) "a")',
    # lists
    "(bullets)", "(bullets (para))", '(bullets "a")', "(bullets 1 (item))", "(bullets item)", "(bullets ())",
    '(bullets (item "a"))', "(bullets (item 1))", "(bullets (item (item)))", "(bullets (item) (para))",
    '(bullets (item) "a")', "(bullets (term ()))", "(bullets (items))", '(bullets ("item"))',
    "(numbers)", "(numbers 1)", "(numbers (item))", '(numbers "1" (item))', "(numbers 1 1 (item))",
    "(numbers (item) 1)", "(numbers 1 (item) 1)", "(numbers 1 (para))", '(numbers 1 (item "a"))',
    "(numbers one (item))",
    "(numbers 1 (item) (term ()))", "(numbers 1 ())",
    "(terms)", "(terms (term))", '(terms (term "a"))', "(terms (term (para)))", "(terms (term () ()))",
    '(terms (term () "a"))', '(terms (term ((emph)) (emph)))', "(terms (item))", "(terms (term ()) (item))",
    "(terms 1 (term ()))", '(terms (term (code "a")))', "(terms (term (1)))", "(terms ())", '(terms "a")',
    "(terms (terms (term ())))", '(terms (term (emph "a")))',
    # tables
    "(table)", '(table "")', '(table "" (caption))', '(table "" (caption) (align))',
    '(table "" (caption) (align none))',
    '(table "" (caption) (align) (row))', '(table "" (caption) (row (cell)))', '(table "" (align none) (row (cell)))',
    '(table (caption) (align none) (row (cell)))', '(table "" (align none) (caption) (row (cell)))',
    '(table "" (caption) (align none) (row))', '(table "" (caption) (align none) (row (cell) (cell)))',
    '(table "" (caption) (align none left) (row (cell)))',
    '(table "" (caption) (align none left) (row (cell) (cell) (cell)))',
    '(table "" (caption) (align none) (row (cell)) (row))',
    '(table "" (caption) (align none) (row (cell)) (row (cell) (cell)))',
    '(table "" (caption) (align none) (row (cell)) (cell))', '(table "" (caption) (align none) (cell))',
    '(table "" (caption) (align none) (row "a"))', '(table "" (caption) (align none) (row (emph)))',
    '(table "" (caption) (align none) (row (cell (para))))', '(table "" (caption) (align none) (row (cell 1)))',
    '(table "" (caption (para)) (align none) (row (cell)))', '(table "" (caption 1) (align none) (row (cell)))',
    '(table "" (caption) (align "none") (row (cell)))', '(table "" (caption) (align middle) (row (cell)))',
    '(table "" (caption) (align 1) (row (cell)))', '(table "" (caption) (align (none)) (row (cell)))',
    '(table "" (caption) (align leftright) (row (cell) (cell)))', '(table "" (caption) (align none) "" (row (cell)))',
    '(table "" "" (caption) (align none) (row (cell)))', '(table 1 (caption) (align none) (row (cell)))',
    '(table "" caption (align none) (row (cell)))', '(table "" (caption) (align none) (rows (cell)))',
    '(table "" (caption) (align none) (row (cell)) "a")', '(table "" (caption) (align none) (align none) (row (cell)))',
    # figures
    "(figure)", '(figure "")', '(figure "" 1)', '(figure 1 "")', '(figure a "")', '(figure "" "" 1)',
    '(figure "" "" (para))', '(figure "" "" a)', '(figure "" (caption))', '(figure "" () "a")',
    # groups and notes
    "(group)", "(group (para))", "(group ())", '(group "a")', "(group class)", '(group ("class"))',
    "(group (class 1))", "(group (class a))", '(group (class (class)))', '(group (class) "a")',
    "(group (class) (emph))", "(group (class) (class))", "(group (para) (class))", "(group (classes))",
    "(note)", "(note a)", "(note 1)", "(note (para))", '(note "a" "b")', '(note "a" (emph))', '(note (para) "a")',
    '(note "a" 1)', '(note "a" note)',
    # inline elements
    "(para (code))", '(para (code "" ""))', "(para (code 1))", "(para (code a))", "(para (code (break)))",
    "(para (math))", '(para (math "" ""))', "(para (math 1))", '(para (math ("a")))',
    '(para (break ""))', "(para (break 1))", "(para (break (break)))", "(para break)",
    "(para (noteref))", '(para (noteref "a" "b"))', "(para (noteref a))", "(para (noteref 1))",
    "(para (ref))", '(para (ref "a" "b"))', "(para (ref a))", "(para (ref 1))", '(para (ref (ref "a")))',
    "(para (cite))", "(para (cite a))", "(para (cite 1))", '(para (cite "a" b))', '(para (cite "a" 1))',
    '(para (cite ("a")))', '(para (cite "a" (break)))',
    "(para (emph 1))", "(para (emph a))", "(para (emph (para)))", "(para (strong 1))", "(para (strike a))",
    "(para (super ()))", "(para (sub (rule)))", '(para (caps (item)))', "(para (emphasis))", "(para (bold))",
    '(para (small-caps "a"))', "(para (strong emph))",
    "(para (link))", "(para (link a))", "(para (link 1))", "(para (link (break)))", '(para (link "" 1))',
    '(para (link "" (para)))', "(para (image))", "(para (image a))", '(para (image "" (rule)))', "(para (image 1))",
    "(para (span))", '(para (span "a"))', "(para (span ()))", "(para (span (emph)))", '(para (span (class a)))',
    '(para (span (class) (para)))', '(para (span (class) 1))', "(para (span (class) (class)))",
    '(para (span (class "a") (class "b")))',
)


class NotationTest(unittest.TestCase):
    def answer(self, tree):
        handed = list(tree) if isinstance(tree, bytes) else reference.octets(tree)
        answer = layout(80, 0, [], handed)
        if len(handed) <= 600:
            self.assertEqual(pages(80, 60, 0, [], handed) == [-20], answer == [-20], tree)
        return answer

    def check_text(self, tree, text):
        self.assertEqual(self.answer(tree), reference.as_answer([text]), tree)

    def check_good(self, tree):
        self.assertGreaterEqual(self.answer(tree)[0], 0, tree)

    def check_wrong(self, tree):
        self.assertEqual(self.answer(tree), [-20], tree)

    def test_well_formed(self):
        for tree in WELL_FORMED:
            self.check_good(tree)
            self.check_good(f"(quote {tree})")
            self.assertTrue(reference_documents.is_document(reference.octets(tree)), tree)

    def test_ill_formed(self):
        for tree in ILL_FORMED:
            self.check_wrong(tree)
            self.check_wrong(f"(rule) {tree} (rule)")
            self.check_wrong(f"(quote {tree})")
            self.check_wrong(f"(bullets (item {tree}))")
            self.check_wrong(f"(terms (term () {tree}))")
            self.check_wrong(f"(group (class) {tree})")
            self.check_wrong(f'(note "a" {tree})')
            self.assertFalse(reference_documents.is_document(reference.octets(tree)), tree)

    def test_an_ill_formed_part_anywhere(self):
        for inline in ("(emph 1)", "1", "a", "(para)", "()", "(code)"):
            for tree in ('(heading 1 "" {})', '(terms (term ({})))', '(figure "" "" {})', '(para (link "" {}))',
                         '(table "" (caption {}) (align none) (row (cell)))', "(para (emph (strong {})))",
                         '(table "" (caption) (align none) (row (cell {})))', "(para (span (class) {}))"):
                self.check_wrong(tree.replace("{}", inline))
                self.check_good(tree.replace("{}", "(break)"))

    def test_labels_and_identifiers(self):
        required = ('(note "{}")', '(para (noteref "{}"))', '(para (ref "{}"))', '(para (cite "{}"))',
                    '(para (cite "a" "{}"))', '(para (cite "{}" "a"))', '(group (class "{}"))',
                    '(group (class "a" "{}"))', '(para (span (class "{}")))', '(para (span (class "{}" "a")))')
        optional = ('(heading 1 "{}")', '(code "{}" "")', '(formula "{}" "")', '(figure "{}" "")',
                    '(table "{}" (caption) (align none) (row (cell)))')
        for tree in required + optional:
            for label in GOOD_LABELS:
                self.check_good(tree.replace("{}", label))
            for label in WRONG_LABELS:
                if label or tree in required:
                    self.check_wrong(tree.replace("{}", label))
        for tree in optional:
            self.check_good(tree.replace("{}", ""))

    def test_each_character_of_a_label(self):
        for code in range(256):
            tree = f'(note "\\u{{{code:x}}}")'
            if chr(code).isascii() and chr(code).isalnum() or chr(code) in "-_.:":
                self.check_good(tree)
            else:
                self.check_wrong(tree)

    def test_texts_that_need_not_be_labels(self):
        for text in WRONG_LABELS + GOOD_LABELS:
            for tree in ('(code "" "{}")', '(formula "" "{}")', '(figure "" "{}")', '(para (link "{}"))',
                         '(para (image "{}"))', '(para (code "{}"))', '(para (math "{}"))', '(para "{}")'):
                self.check_good(tree.replace("{}", text))

    def test_levels(self):
        for level in range(1, 7):
            self.check_good(f'(heading {level} "")')
        for level in ("0", "7", "8", "9", "10", "11", "16", "999999", "01", "1000000", "-1", "+1", "1.0", "1a"):
            self.check_wrong(f'(heading {level} "")')

    def test_numbers_of_the_first_item(self):
        for start in ("0", "1", "9", "10", "99999", "100000", "999999"):
            self.check_good(f"(numbers {start} (item))")
        for start in ("00", "01", "000000", "0999999", "1000000", "9999999", "-1", "-0", "+1", "1.", "4294967296",
                      "1e3"):
            self.check_wrong(f"(numbers {start} (item))")

    def test_nesting(self):
        for depth in range(1, 17):
            self.check_good("(quote " * (depth - 1) + "(rule)" + ")" * (depth - 1))
            self.check_good("(quote" * depth + ")" * depth)
        for depth in (17, 18, 30, 85):
            self.check_wrong("(quote" * depth + ")" * depth)
            self.check_wrong("(rule) " + "(quote" * depth + ")" * depth)
        self.check_good("(quote" * 13 + "(bullets (item (rule)))" + ")" * 13)
        self.check_wrong("(quote" * 14 + "(bullets (item (rule)))" + ")" * 14)

    def test_nesting_of_inline_elements(self):
        self.check_good("(para " + "(emph " * 15 + '"a"' + ")" * 16)
        self.check_wrong("(para " + "(emph " * 16 + '"a"' + ")" * 17)
        self.check_good("(quote" * 13 + "(para (span (class)))" + ")" * 13)
        self.check_wrong("(quote" * 14 + "(para (span (class)))" + ")" * 14)
        self.check_good("(quote" * 13 + "(terms (term ()))" + ")" * 13)
        self.check_wrong("(quote" * 14 + "(terms (term ()))" + ")" * 14)

    def test_nesting_counts_anew(self):
        deepest = "(quote" * 16 + ")" * 16
        self.check_good(deepest * 2)
        self.check_good("(quote " + "(quote" * 15 + ")" * 15 + "(rule)" + "(quote" * 15 + ")" * 16)

    def test_lists_that_are_not_closed(self):
        for tree in ("(", "(para", '(para "a"', "(quote (rule)", "(quote (para)", "((((", "(" * 16, "(" * 17, "(" * 600,
                     "(quote" * 16, "(quote" * 17, "(quote" * 100, "(rule) (", "(rule ;)", '(para "a)', "(rule"):
            self.check_wrong(tree)

    def test_lists_that_are_not_opened(self):
        for tree in (")", "(rule))", ")(rule)", "(rule)) (rule)", ")" * 600, ")(", "(para))("):
            self.check_wrong(tree)

    def test_outside_of_any_list(self):
        for tree in ('"a"', "1", "para", "rule", '(rule) "a"', "1 (rule)", "(rule) rule", '""', "0", "()", "none",
                     "-", "+", "'", "#", ",", "[", "{", "(rule).", "(rule)\\", "A", "_"):
            self.check_wrong(tree)

    def test_no_blocks(self):
        for tree in ("", " ", "\n", "\t\r\n ", ";", ";\n", "; (rule)", ";a\n ;b\n\n", ";" * 600, " " * 600):
            self.assertEqual(self.answer(tree), [0], tree)

    def test_white_space(self):
        for space in (" ", "\t", "\n", "\r", "\r\n", " \t\r\n ", "   "):
            self.check_text(f'{space}({space}para{space}"a"{space}({space}emph{space}"b"{space}){space}){space}', "ab")
            self.check_good(f'(heading{space}1{space}"")(numbers{space}7{space}(item))')

    def test_other_spaces(self):
        for space in ("\u000b", "\u000c", "\u0000", "\u001f", "\u007f", "\u00a0", "\u0085", "\u2003", "\ufeff"):
            self.check_wrong(f'(para{space}"a")')
            self.check_wrong(f"{space}(rule)")
            self.check_wrong(f"(rule){space}")
            self.check_wrong(space)

    def test_expressions_without_white_space_between_them(self):
        self.check_text('(para"a""b"(emph"c")"d"(break)"e")(para"f")', "abcd\ne\n\nf")
        self.check_text('(numbers 7(item(para"a"))(item(para"b")))', "7. a\n8. b")
        self.check_text('(heading 3"x""y")', "y")
        self.check_text('(table""(caption)(align none left)(row(cell"a")(cell"b")))', "a | b\n--+--")
        self.check_text('(terms(term("a")(para"b")))', "a\n    b")
        self.check_text('(para"a";comment\n"b")', "ab")
        self.check_text('(para;comment\n"b")', "b")
        self.check_text('(heading 3;comment\n"" "b")', "b")

    def test_symbols_need_white_space_between_them(self):
        self.check_wrong('(table "" (caption) (align noneleft) (row (cell) (cell)))')
        self.check_wrong('(table "" (caption) (align none-left) (row (cell) (cell)))')
        self.check_wrong('(heading1 "" "a")')
        self.check_wrong('(numbers1 (item))')

    def test_symbols(self):
        for tree in ("(Para)", "(PARA)", "(paRa)", "(para-)", "(para1)", "(-para)", "(1para)", "(p_ara)", "(para.)",
                     "(p\u00e4ra)", "(para:)", "(:para)", "(para/)", "(para')", "(`para)", "({para)"):
            self.check_wrong(tree)

    def test_comments(self):
        self.check_text('; (a "b\n(para ; "x" )\n"a" ;\n) ; end', "a")
        self.check_text('(para "a;b") ;"', "a;b")
        self.check_text('(para "a");;;\n;\n(para "b");', "a\n\nb")
        self.check_wrong('(para "a" ; )')
        self.check_wrong('(para "a" ; )\r)')
        self.check_text('(para "a" ; )\r\n)', "a")
        self.check_text('(para "a" ; \u20ac\n)', "a")

    def test_comments_need_not_be_utf8(self):
        for octets in (b"\xff", b"\x80", b"\xc3", b"\xed\xa0\x80", b"\x00", b"\x1f", b"\x7f", b"\\", b'"',
                       bytes(range(11, 256))):
            self.check_text(b'(para "a" ;' + octets + b'\n)', "a")
            self.check_text(b'(para "a");' + octets, "a")
            self.check_text(b';' + octets + b'\n(para "a")', "a")

    def test_bytes_outside_of_strings_and_comments(self):
        for code in range(256):
            if chr(code) not in " \t\n\r;":
                self.check_wrong(b"(rule) " + bytes([code]))
                self.check_wrong(bytes([code]) + b" (rule)")
                self.check_wrong(b"(quote " + bytes([code]) + b" (rule))")
        self.check_wrong("\u20ac (rule)")
        self.check_wrong("(para \u20ac)")

    def test_strings_that_are_not_utf8(self):
        for octets in (b"\xff", b"\x80", b"\xc3", b"a\xc3", b"\xc3a", b"\xc0\x80", b"\xe0\x80\x80", b"\xed\xa0\x80",
                       b"\xf4\x90\x80\x80", b"\xe2\x82", b"\xf0\x9f\x98", b"\xc3\\n", b"\xfe"):
            for before, after in ((b'(para "', b'")'), (b'(code "" "', b'")'), (b'(para (link "', b'"))'),
                                  (b'(heading 1 "', b'")'), (b'(para "a" "b', b'c") (rule)')):
                self.check_wrong(before + octets + after)

    def test_strings_in_utf8(self):
        for code in (0x7F, 0x80, 0x7FF, 0x800, 0xD7FF, 0xE000, 0xFFFD, 0xFEFF, 0xFFFF, 0x10000, 0x10FFFF):
            self.check_text(f'(para "{chr(code)}")', chr(code))

    def test_a_raw_character_below_20(self):
        for code in range(32):
            self.check_wrong(f'(para "{chr(code)}")')
            self.check_wrong(f'(para "a{chr(code)}b")')
            self.check_wrong(f'(code "" "a\\n{chr(code)}")')
            self.check_wrong(f'(para "\\{chr(code)}")')

    def test_escape_sequences(self):
        self.check_text('(code "" "a\\"b")', '    a"b')
        self.check_text('(code "" "a\\\\b")', "    a\\b")
        self.check_text('(code "" "a\\nb")', "    a\n    b")
        self.check_text('(code "" "a\\tb")', "    a\tb")
        self.check_text('(code "" "\\\\n\\\\\\\\")', "    \\n\\\\")
        self.check_text('(code "" "\\"\\"\\\\")', '    ""\\')
        self.check_text('(para "\\"" "\\\\")', '"\\')

    def test_other_escape_sequences(self):
        for letter in map(chr, range(32, 127)):
            if letter not in '"\\ntu':
                self.check_wrong(f'(para "\\{letter}")')
                self.check_wrong(f'(para "a\\{letter}b")')
        for text in ("\\\u00e9", "\\N", "\\T", "\\U{61}", "\\x61", "\\0"):
            self.check_wrong(f'(para "{text}")')

    def test_code_points(self):
        for digits in ("9", "a", "f", "41", "20ac", "0", "00", "000000", "00e9", "0000e9", "1f600", "10ffff", "fffff",
                       "d7ff", "e000", "ffff", "1", "1f", "7f", "00d7ff", "00e000"):
            self.check_text(f'(figure "" "<\\u{{{digits}}}>")', f"[<{chr(int(digits, 16))}>]")

    def test_code_points_that_are_white_space(self):
        self.check_text('(code "" "a\\u{a}b\\u{9}c\\u{d}d\\u{20}e")', "    a\n    b\tc\rd e")
        self.check_text('(para "a\\u{a}b\\u{9}c\\u{d}d\\u{20}e")', "a\nb c d e")

    def test_code_points_for_signs_of_the_notation(self):
        self.check_text('(code "" "\\u{22}\\u{5c}\\u{28}\\u{3b}n")', '    "\\(;n')

    def test_all_hexadecimal_digits(self):
        for digit in "0123456789abcdef":
            self.check_text(f'(figure "" "\\u{{1{digit}1}}")', f"[{chr(int(f'1{digit}1', 16))}]")

    def test_wrong_code_points(self):
        for text in ("\\u{}", "\\u{0000041}", "\\u{1000000}", "\\u{A}", "\\u{4A}", "\\u{aF}", "\\u{d800}", "\\u{dfff}",
                     "\\u{dbff}", "\\u{dc00}", "\\u{00d800}", "\\u{110000}", "\\u{ffffff}", "\\u{41", "\\u41", "\\u41}",
                     "\\u{4 1}", "\\u{ 41}", "\\u{g}", "\\u{-1}", "\\u{+1}", "\\u", "\\u{", "\\u}", "\\u(41)",
                     "\\u{4\\u{31}}",
                     "\\u{0x41}", "\\u{d83d}\\u{de00}", "\\u{\u0661}", "\\u{`}", "\\u{@}", "\\u{/}", "\\u{:}",
                     "\\u {41}", "\\u\\{41}", "\\u{{41}}a", "\\u{000000000000000000000041}"):
            self.check_wrong(f'(para "{text}")')
            self.check_wrong(f'(para "a{text}b")')
            self.check_wrong(f'(para "{text}" "}}")')

    def test_what_follows_a_code_point(self):
        self.check_text('(figure "" "\\u{41}}\\u{41}41}")', "[A}A41}]")

    def test_strings_that_are_not_closed(self):
        for tree in ('(para "', '(para ")', '(para "a)', '(para "a\\")', '(para "a\\', '"', '(para "a" ")',
                     '(para "\\\\\\")',
                     '(para "\\u{41}', '(para "\\u', "\"" * 3, '(para """)'):
            self.check_wrong(tree)

    def test_integers_as_other_kinds(self):
        for tree in ("(para 0)", '(code 0 "")', "(note 0)", '(table "" (caption) (align 0) (row (cell)))'):
            self.check_wrong(tree)

    def test_the_whole_tree_counts(self):
        good = '(para "a") '
        self.check_text(good * 54, "\n\n".join(["a"] * 54))
        self.check_wrong(good * 54 + ")")
        self.check_wrong(good * 54 + "(")
        self.check_wrong(good * 30 + "1 " + good * 20)
        self.check_wrong('(note "a" 1)')
        self.check_wrong('(note "a") (note "a" (para 1))')

    def test_changed_documents_against_the_reference(self):
        chosen = random.Random(91)
        pieces = ["(", ")", '"', " ", "0", "01", "1234567", "a", "para", "(rule)", '""', '"x"', ";", "\n", "\\", "-",
                  "none",
                  "\\u{d800}", "\\u{10ffff}", "\\u{}", "\\n", "\u20ac", "(para", "item", "\u0000", "\t", "A", "\\u{A}"]
        wrong = 0
        for _ in range(2500):
            tree = chance.Writer(chosen).tree(size=300)
            for _ in range(chosen.randint(0, 2)):
                start = chosen.randint(0, len(tree))
                end = min(len(tree), start + chosen.choice([0, 0, 1, 1, 2, 5]))
                tree = tree[:start] + (chosen.choice(pieces) if chosen.random() < 0.7 else "") + tree[end:]
            octets = reference.octets(tree)
            is_document = reference_documents.is_document(octets)
            self.assertEqual(layout(10, 0, [], octets) != [-20], is_document, tree)
            wrong += not is_document
        self.assertGreater(wrong, 500)
        self.assertLess(wrong, 2000)


if __name__ == "__main__":
    unittest.main()
