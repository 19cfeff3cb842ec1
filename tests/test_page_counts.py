"""Operation 9: page_counts."""

import random
import unittest

import chance
import reference
import reference_documents
from plainlayout.typesetting import page_counts, pages


def code(*lines):
    """A code whose lines are free ones."""
    return '(code "" "' + "\\n".join(lines) + '")'


class PageCountsTest(unittest.TestCase):
    def check(self, height, tree, cost, *sizes, width=20, justified=0, patterns=""):
        """The sizes are pairs of the numbers of lines of a page's body and of its foot."""
        octets = reference.octets(tree)
        self.assertLessEqual(len(octets), 600)
        answer = page_counts(width, height, justified, reference.octets(patterns), octets)
        self.assertEqual(answer, [len(sizes), cost] + [number for size in sizes for number in size], (height, tree))
        self.assertIs(type(answer), list)
        for number in answer:
            self.assertIs(type(number), int)

    def test_example(self):
        self.check(4, '(para "a") (rule)', 0, (3, 0))

    def test_a_document_without_lines(self):
        for tree in ("", " ", "(para)", '(note "a" (para "b"))', "(quote (group (class)))", "; a", '(heading 3 "")'):
            self.check(4, tree, 0)
            self.check(60, tree, 0)
        self.assertEqual(page_counts(10, 4, 0, [], []), [0, 0])

    def test_one_page(self):
        for count in range(1, 5):
            self.check(4, code(*"abcd"[:count]), 0, (count, 0))
        for height in range(4, 61):
            self.check(height, code(*["a"] * height), 0, (height, 0))

    def test_several_pages(self):
        self.check(4, code(*"abcde"), 0, (4, 0), (1, 0))
        self.check(4, code(*"abcdefghij"), 0, (4, 0), (4, 0), (2, 0))
        for height in range(4, 60):
            self.check(height, code(*["a"] * (height + 1)), 0, (height, 0), (1, 0))
        self.check(4, "(rule)" * 6, 1 + 1, (3, 0), (3, 0), (3, 0))
        self.check(5, "(rule)" * 6, 0, (5, 0), (5, 0))

    def test_the_square_of_the_missing_lines(self):
        # The note of the second line has no room on the first page.
        for height in range(4, 30):
            note = '(note "n" (code "" "' + "\\n".join(["x"] * (height - 2)) + '"))'
            self.check(height, note + code("a", "b[n]", "c"), (height - 1) ** 2, (1, 0), (1, height - 1), (1, 0))

    def test_the_last_page_costs_nothing(self):
        self.check(60, '(para "a")', 0, (1, 0))
        self.check(60, '(para "[n]") (note "n")', 0, (1, 2))
        self.check(4, code(*"abcdef"), 0, (4, 0), (2, 0))

    def test_pages_whose_body_has_no_line(self):
        for tree in ('(heading 1 "")', '(code "" "\\n")', code(*[""] * 40), '(heading 2 "") (heading 1 "")'):
            self.check(4, tree, 0, (0, 0))
            self.check(60, tree, 0, (0, 0))

    def test_empty_lines_at_both_ends_count_for_nothing(self):
        self.check(4, code("", "", "a", "", "b", ""), 0, (3, 0))
        self.check(4, code("a", *[""] * 30, "b"), 9, (1, 0), (1, 0))
        self.check(4, code("a", "b", "c", "", "d"), 1, (3, 0), (1, 0))
        self.check(4, code("a", "b", "", "", "c", "d"), 4, (2, 0), (2, 0))

    def test_a_foot_that_is_longer_than_the_height(self):
        for count in range(1, 20):
            note = '(note "n" (code "" "' + "\\n".join(["x"] * count) + '"))'
            self.check(4, note + '(para "[n]")', 100000 * max(count - 2, 0), (1, count + 1))
            # A page of one line that isn't the last one, either.
            if count > 2:
                self.check(4, note + code("[n]", "a"), 100000 * (count - 2), (1, count + 1), (1, 0))

    def test_a_page_of_one_kept_line(self):
        note = '(note "n" (code "" "x\\nx"))'
        self.check(4, note + '(para "[n]" (break) "a")', 1000, (1, 3), (1, 0))
        note = '(note "n" (code "" "x\\nx\\nx"))'
        self.check(4, note + '(para "[n]" (break) "a")', 101000, (1, 4), (1, 0))
        self.check(4, note + code("[n]") + '(para "a" (break) "b")', 100000, (1, 4), (2, 0))
        # Both lines of the term are kept, and the notes let no two lines together.
        notes = '(note "n" (code "" "x\\nx")) (note "m" (code "" "x\\nx"))'
        self.check(4, notes + '(terms (term ("[n]" (break) "[m]") (para "a")))', 2000, (1, 3), (1, 3), (1, 0))

    def test_a_kept_line_costs_1000(self):
        self.check(4, '(heading 3 "" "a\\nb\\nc\\nd\\ne")', 1000, (4, 0), (1, 0))
        self.check(4, '(heading 3 "" "a\\nb\\nc\\nd\\ne\\nf\\ng\\nh\\ni")', 2000, (4, 0), (4, 0), (1, 0))
        for size in (30, 31, 32, 33):
            tree = '(terms (term () (para "a")) (term (' + "(break)".join(['"h"'] * size) + ') (para "b")))'
            if size ** 2 < 1000:
                self.check(size + 1, tree, size ** 2, (1, 0), (size + 1, 0))
            else:
                self.check(size + 1, tree, 1000, (size + 1, 0), (1, 0))

    def test_the_last_page_may_end_with_a_kept_line(self):
        for tree in ('(heading 1 "" "a")', code("a") + '(heading 3 "" "b")', '(figure "" "a" "")'):
            self.assertEqual(page_counts(20, 4, 0, [], reference.octets(tree))[:2], [1, 0])

    def test_a_kept_empty_line_at_the_end(self):
        # The line under the heading is empty and kept; with it the first page would cost 1000 more.
        tree = '(bullets (item (para "a" (break) "b" (break) "c") (heading 1 "")) (item (para "d")))'
        self.check(4, tree, 1, (3, 0), (1, 0))
        # Without it the page's last line would be the kept one.
        tree = '(terms (term ("a\\nb\\nc\\nd") (heading 1 "") (code "" "\\ne")))'
        self.check(4, tree, 0, (4, 0), (1, 0))

    def test_notes(self):
        note = '(note "n" (para "b"))'
        self.check(4, note + '(para "[n]")', 0, (1, 2))
        self.check(4, note + code("[n]", "a", "b"), 0, (2, 2), (1, 0))
        self.check(4, note + code("a", "b", "[n]"), 4, (2, 0), (1, 2))
        self.check(4, note + code("[n]", "a", "b", "c", "[n]"), 0, (2, 2), (3, 0))
        self.check(4, note + '(para "n")', 0, (1, 0))

    def test_a_target_with_line_feeds_is_one_line(self):
        self.check(4, '(figure "" "a\\nb\\nc\\nd\\ne\\nf") (para "x")', 0, (3, 0))

    def test_the_width_and_patterns_and_justified(self):
        self.check(4, '(para "aaaa bbbb cccc dddd eeee ffff")', 0, (3, 0), width=10)
        self.check(4, '(para "aaaa bbbb cccc dddd eeee ffff")', 0, (3, 0), width=10, justified=1)
        self.check(4, '(para "aaaa bbbb cccc dddd eeee ffff")', 0, (1, 0), width=80)
        self.check(4, '(heading 3 "" "aaaaaaabcccccc")', 0, (1, 0), width=10)
        self.check(4, '(heading 3 "" "aaaaaaabcccccc")', 0, (2, 0), width=10, patterns="aab1c")

    # Against the pages, and against a second way

    def check_pages(self, width, height, justified, patterns, tree):
        octets = reference.octets(tree)
        found = pages(width, height, justified, reference.octets(patterns), octets)
        answer = page_counts(width, height, justified, reference.octets(patterns), octets)
        document = reference_documents.Document(width, justified, patterns, octets)
        best = document.pages(height)
        wanted = [len(best), sum(page.cost for page in best)]
        for page in best:
            wanted += [len(page.body), len(page.foot)]
        self.assertEqual(answer, wanted, (width, height, justified, patterns, tree))
        # A figure's target may have line feeds in it.
        if best and not any("\n" in line for page in best for line in page.body + page.foot):
            texts = bytes(found[1:]).decode("utf-8").split("\n\f\n")
            self.assertEqual(len(texts), answer[0])
            for text, body, foot in zip(texts, answer[2::2], answer[3::2], strict=True):
                size = max(body + foot, height) if foot else body
                self.assertEqual(len(text.split("\n")) if text else 0, size, tree)
        return answer

    def test_documents_against_the_reference(self):
        chosen = random.Random(94)
        several = 0
        for _ in range(600):
            tree = chance.Writer(chosen).tree(blocks=20)
            width, height = chosen.choice([10, 12, 20, 80]), chosen.choice([4, 4, 5, 6, 8, 12, 60])
            answer = self.check_pages(width, height, chosen.randint(0, 1), chosen.choice(["", "b1", "1a b2c"]), tree)
            several += answer[0] > 1
        self.assertGreater(several, 200)

    def test_short_documents_against_all_divisions(self):
        chosen = random.Random(95)
        costly = 0
        for _ in range(1200):
            tree = chance.Writer(chosen).tree(blocks=5)
            width, height = chosen.choice([10, 12, 20, 40]), chosen.choice([4, 4, 4, 5, 6])
            document = reference_documents.Document(width, 0, "b1", reference.octets(tree))
            if 0 < len(document.lines) <= 12:
                best = document.pages_of_all(height)
                answer = page_counts(width, height, 0, reference.octets("b1"), reference.octets(tree))
                self.assertEqual(answer[:2], [len(best), sum(page.cost for page in best)], (width, height, tree))
                sizes = [number for page in best for number in (len(page.body), len(page.foot))]
                self.assertEqual(answer[2:], sizes, (width, height, tree))
                costly += answer[1] > 0
        self.assertGreater(costly, 50)

    def test_long_trees(self):
        for begin, unit, end in (("", "(rule)", ""), ('(code "" "', "a\\n", '")'), ("(bullets", "(item)", ")"),
                                 ('(note "a" (rule)) (code "" "', "[a]\\n[b]", '") (note "b")'),
                                 ('(table""(caption)(align none)', "(row(cell))", ")"), ('(code "" "', "\\n", '")')):
            tree = begin + unit * ((600 - len(begin) - len(end)) // len(unit)) + end
            self.check_pages(10, 4, 0, "", tree)


if __name__ == "__main__":
    unittest.main()
