"""The requirements over all operations, and each row of the examples."""

import random
import unittest

import chance
import reference
import reference_documents
from plainlayout.typesetting import break_text, columns, cost, cost_of, greedy_text, hyphenate, justify, layout
from plainlayout.typesetting import page_counts, pages

TABLE = '(table "" (caption) (align none none) (row (cell "abc") (cell "d e f g h")))'


def shown(answer):
    """A returned text as its lines."""
    text = bytes(answer[1:]).decode("utf-8")
    return text.split("\n") if text else []


def some_text(chosen, size=60):
    return "".join(chosen.choice("aabbccAB--  \u20ac\n") for _ in range(chosen.randint(0, size)))


class RequirementsTest(unittest.TestCase):
    def test_examples(self):
        octets = reference.octets
        self.assertEqual(hyphenate(octets("hy3ph he2n .be5t"), octets("hyphen")), [1, 2])
        self.assertEqual(hyphenate(octets("a1b"), octets("abca")), [0])
        self.assertEqual(break_text(10, [], octets("one two three")), reference.as_answer(["one two", "three"]))
        self.assertEqual(cost(10, [], octets("one two three")), [9, 2])
        self.assertEqual(greedy_text(10, [], octets("a bb ccccccc d")), reference.as_answer(["a bb", "ccccccc d"]))
        self.assertEqual(cost_of(10, [], octets("one two three"), [1, 2]), [49])
        self.assertEqual(justify(12, octets("a b  cc")), reference.as_answer(["a    b    cc"]))
        tree = octets('(heading 1 "" "T") (bullets (item (para "a")))')
        self.assertEqual(layout(20, 0, [], tree), reference.as_answer(["T", "=", "", "- a"]))
        self.assertEqual(page_counts(20, 4, 0, [], octets('(para "a") (rule)')), [1, 0, 3, 0])
        self.assertEqual(columns(10, [], octets(TABLE)), [2, 3, 4])

    def test_no_division_into_lines_costs_less(self):
        chosen = random.Random(111)
        for _ in range(150):
            text = some_text(chosen, 25)
            of = reference.pieces("b1", text)
            if len(of) <= 9:
                found = []
                for counts in reference.all_divisions(len(of)):
                    answer = cost_of(10, [98, 49], reference.octets(text), counts)
                    found += answer if answer != [-33] else []
                least, size = cost(10, [98, 49], reference.octets(text))
                self.assertEqual(least, min(found), text)
                broken = shown(break_text(10, [98, 49], reference.octets(text)))
                self.assertEqual(len(broken), size, text)

    def test_no_division_into_lines_costs_less_than_in_a_paragraph(self):
        chosen = random.Random(112)
        for _ in range(300):
            words = [chosen.choice(["a", "bb", "ccc", "dddd", "eeeeee-ff", "abababab"]) for _ in range(12)]
            octets = reference.octets(" ".join(words))
            for tree in ('(para "{}")', '(heading 3 "" "{}")', '(terms (term ("{}")))'):
                answer = layout(12, 0, [98, 49], reference.octets(tree.replace("{}", " ".join(words))))
                self.assertEqual(answer, break_text(12, [98, 49], octets))
            tree = reference.octets('(figure "" "" "' + " ".join(words) + '")')
            self.assertEqual(shown(layout(12, 0, [98, 49], tree))[1:], shown(break_text(12, [98, 49], octets)))

    def test_all_pieces_are_in_the_lines_in_order(self):
        chosen = random.Random(113)
        for _ in range(300):
            text = some_text(chosen, 150).replace("\n", " ")
            octets = reference.octets(text)
            wanted = text.replace(" ", "").replace("-", "")
            self.assert_together(wanted, shown(break_text(10, [98, 49], octets)))
            self.assert_together(wanted, shown(greedy_text(10, [98, 49], octets)))
            self.assert_together(wanted, shown(justify(10, octets)))
            tree = reference.octets(f'(para "{text}")')
            for justified in (0, 1):
                self.assert_together(wanted, shown(layout(10, justified, [98, 49], tree)))
                found = [line for line in shown(pages(10, 7, justified, [98, 49], tree)) if line != "\f"]
                self.assert_together(wanted, found)

    def assert_together(self, wanted, lines):
        self.assertEqual("".join(lines).replace(" ", "").replace("-", ""), wanted)

    def test_all_lines_that_are_not_empty_are_on_the_pages_in_order(self):
        chosen = random.Random(115)
        with_feet = 0
        for _ in range(400):
            octets = reference.octets(chance.Writer(chosen).tree(blocks=20))
            width, height = chosen.randint(10, 30), chosen.randint(4, 9)
            lines = [line for line in shown(layout(width, 0, [], octets)) if line]
            counts = page_counts(width, height, 0, [], octets)
            texts = bytes(pages(width, height, 0, [], octets)[1:]).decode("utf-8").split("\n\f\n")
            document = reference_documents.Document(width, 0, "", octets)
            if counts[0] == 0 or any("\n" in line.text for line in document.lines):
                continue
            bodies = []
            for text, body in zip(texts, counts[2::2], strict=True):
                bodies += text.split("\n")[:body]
            with_feet += any(counts[3::2])
            self.assertEqual([line for line in bodies if line], lines)
        self.assertGreater(with_feet, 50)

    def test_a_line_is_longer_than_the_width_only_if_it_is_a_single_piece(self):
        chosen = random.Random(116)
        longer = 0
        for _ in range(300):
            text = some_text(chosen, 150).replace(" ", chosen.choice([" ", "a"])).replace("\n", " ")
            singles = {reference.line([piece]) for piece in reference.pieces("b1", text)}
            tree = reference.octets(f'(para "{text}")')
            found = shown(break_text(12, [98, 49], reference.octets(text)))
            found += shown(greedy_text(12, [98, 49], reference.octets(text)))
            found += shown(layout(12, 0, [98, 49], tree)) + shown(layout(12, 1, [98, 49], tree))
            for line in found:
                self.assertTrue(len(line) <= 12 or line in singles, text)
                longer += len(line) > 12
        self.assertGreater(longer, 100)

    def test_a_justified_line_has_the_width_or_is_unchanged(self):
        chosen = random.Random(117)
        changed = 0
        for _ in range(200):
            width = chosen.randint(10, 30)
            text = some_text(chosen, 200).replace("\n", "\\n")
            tree = reference.octets(f'(para "{text}")')
            for old, new in zip(shown(layout(width, 0, [], tree)), shown(layout(width, 1, [], tree)), strict=True):
                self.assertEqual(reference.words(old), reference.words(new))
                self.assertTrue(new == old or len(new) == width)
                changed += new != old
        self.assertGreater(changed, 200)

    def test_hyphens_are_only_inside_words_with_two_letters_on_each_side(self):
        chosen = random.Random(118)
        hyphens = 0
        for _ in range(150):
            text = "".join(chosen.choice("aabbccABC ") for _ in range(100))
            patterns = reference.octets("1a 1b 1c a1 b1 c1")
            tree = reference.octets(f'(para "{text}")')
            for answer in (break_text(10, patterns, reference.octets(text)), layout(10, 0, patterns, tree),
                           greedy_text(10, patterns, reference.octets(text))):
                joined = bytes(answer[1:]).decode("utf-8").replace("-\n", "|").replace("\n", " ")
                self.assertEqual(reference.words(joined.replace("|", "")), reference.words(text))
                for word in reference.words(joined):
                    parts = word.split("|")
                    hyphens += len(parts) - 1
                    for part in (parts[0], parts[-1]) if len(parts) > 1 else ():
                        self.assertGreaterEqual(len(part), 2)
        self.assertGreater(hyphens, 300)


if __name__ == "__main__":
    unittest.main()
