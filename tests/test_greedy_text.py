"""Operation 4: greedy_text."""

import random
import unittest

import reference
from plainlayout.typesetting import greedy_text

# Divides words of these letters after every "b", where two letters are on each side.
AFTER_B = "b1"


class GreedyTextTest(unittest.TestCase):
    def check(self, width, patterns, text, lines):
        answer = greedy_text(width, reference.octets(patterns), reference.octets(text))
        self.assertEqual(answer, reference.as_answer(lines))
        self.assertIs(type(answer), list)
        for number in answer:
            self.assertIs(type(number), int)

    def check_reference(self, width, patterns, text):
        with self.subTest(width=width, patterns=patterns, text=text):
            answer = greedy_text(width, reference.octets(patterns), reference.octets(text))
            self.assertEqual(answer, reference.greedy_answer(width, patterns, text))

    def test_example(self):
        self.check(10, "", "a bb ccccccc d", ["a bb", "ccccccc d"])

    def test_the_form_of_the_answer(self):
        self.assertEqual(greedy_text(10, [], [97, 32, 98]), [3, 97, 32, 98])
        self.assertEqual(greedy_text(10, [], [97] * 9 + [32, 98, 98]), [12] + [97] * 9 + [10, 98, 98])

    def test_no_words(self):
        for text in ("", " ", "\n", "\t", "\r", " \t\r\n \n", " " * 600):
            self.assertEqual(greedy_text(10, [], reference.octets(text)), [0])
            self.assertEqual(greedy_text(80, [97, 49], reference.octets(text)), [0])

    def test_white_space_is_one_space_in_a_line(self):
        self.check(20, "", "  a\tb\n\nc\r\nd   e \n", ["a b c d e"])

    def test_a_line_of_just_the_width(self):
        self.check(10, "", "aaaa bbbbb cc", ["aaaa bbbbb", "cc"])
        self.check(10, "", "aaaa bbbbbb cc", ["aaaa", "bbbbbb cc"])
        self.check(10, "", "aaaaaaaaaa b", ["aaaaaaaaaa", "b"])
        self.check(10, "", "aaaaaaaaa b", ["aaaaaaaaa", "b"])

    def test_not_the_best_division(self):
        self.check(10, "", "aaaaa bbb ccc ddddddd", ["aaaaa bbb", "ccc", "ddddddd"])
        self.check(10, "a1c", "aaa bbbbacc", ["aaa bbbba-", "cc"])

    def test_a_piece_longer_than_the_width(self):
        self.check(10, "", "aaaaaaaaaaa", ["aaaaaaaaaaa"])
        self.check(10, "", "a bbbbbbbbbbbbbbb c", ["a", "bbbbbbbbbbbbbbb", "c"])
        self.check(10, "", "aaaaaaaaaaa bbbbbbbbbbbb", ["aaaaaaaaaaa", "bbbbbbbbbbbb"])
        self.check(10, "", "aa-bbbbbbbbbbbbbbb-cc", ["aa-", "bbbbbbbbbbbbbbb-", "cc"])
        self.check(10, AFTER_B, "aaaaaaaaaaaabcccc", ["aaaaaaaaaaaab-", "cccc"])

    def test_a_first_piece_that_fits_with_its_hyphen(self):
        self.check(10, AFTER_B, "xxx aaaabcc", ["xxx aaaab-", "cc"])
        self.check(10, AFTER_B, "xxx aabcccccc", ["xxx aab-", "cccccc"])
        self.check(10, AFTER_B, "aaaaaaaabcc", ["aaaaaaaab-", "cc"])

    def test_a_first_piece_that_fits_without_its_hyphen_only(self):
        self.check(10, AFTER_B, "xxxx aaaabcc", ["xxxx", "aaaabcc"])
        self.check(10, AFTER_B, "xxx aaaaabcc", ["xxx", "aaaaabcc"])
        self.check(10, AFTER_B, "x aaabaaabcc", ["x aaab-", "aaabcc"])

    def test_a_lone_piece_that_fits_without_its_hyphen_only(self):
        self.check(10, AFTER_B, "aaaaaaaaabcc", ["aaaaaaaaab-", "cc"])
        self.check(10, AFTER_B, "x aaaaaaaaabcc", ["x", "aaaaaaaaab-", "cc"])

    def test_no_hyphen_where_the_word_fits(self):
        self.check(10, AFTER_B, "xx aaaabcc", ["xx aaaabcc"])
        self.check(10, AFTER_B, "aabaabaabc", ["aabaabaabc"])
        self.check(10, AFTER_B, "aabaabaabcc", ["aabaabaab-", "cc"])
        self.check(10, AFTER_B, "aabaabaaabcc", ["aabaab-", "aaabcc"])

    def test_the_joint_plain(self):
        self.check(10, "", "aaaaaa-bbbbbb", ["aaaaaa-", "bbbbbb"])
        self.check(10, "", "aaaaaaaaa-bbbbbb", ["aaaaaaaaa-", "bbbbbb"])
        self.check(10, "", "x aaaaaaa-bbbb", ["x aaaaaaa-", "bbbb"])
        self.check(10, "", "x aaaaaaaa-bbbb", ["x", "aaaaaaaa-", "bbbb"])
        self.check(10, "", "aaaa-bbbbb", ["aaaa-bbbbb"])
        self.check(10, "", "aa-bb-cc-dd-ee", ["aa-bb-cc-", "dd-ee"])
        self.check(10, "", "aaaaaaa---bbb", ["aaaaaaa---", "bbb"])

    def test_a_hyphen_at_the_end_of_a_word(self):
        self.check(10, "", "aaaaaaaaa- b", ["aaaaaaaaa-", "b"])
        self.check(10, "", "aaaa- bbbb c", ["aaaa- bbbb", "c"])

    def test_lengths_are_numbers_of_code_points(self):
        for letter in ("\u00e9", "\u07ff", "\u0800", "\u20ac", "\uffff", "\U00010000", "\U0001f600", "\U0010ffff"):
            self.check(10, "", f"{letter * 4} {letter * 5} {letter}", [f"{letter * 4} {letter * 5}", letter])
            self.check(10, "", f"{letter * 5} {letter * 5} {letter}", [letter * 5, f"{letter * 5} {letter}"])
            self.check(10, "", letter * 11, [letter * 11])

    def test_answers_are_bytes_in_utf8(self):
        answer = greedy_text(10, [], reference.octets("\u20ac \u00e9"))
        self.assertEqual(answer, [6, 0xE2, 0x82, 0xAC, 32, 0xC3, 0xA9])

    def test_the_least_and_the_greatest_width(self):
        words = " ".join(["abcd"] * 30)
        self.check(10, "", words, ["abcd abcd"] * 15)
        self.check(80, "", words, [" ".join(["abcd"] * 16), " ".join(["abcd"] * 14)])
        self.check(80, "", "a" * 40 + " " + "b" * 39 + " c", ["a" * 40 + " " + "b" * 39, "c"])
        self.check(80, "", "a" * 40 + " " + "b" * 40 + " c", ["a" * 40, "b" * 40 + " c"])
        self.check(80, "", "a" * 81 + " b", ["a" * 81, "b"])

    def test_long_lists(self):
        self.check(10, "", "a " * 300, ["a a a a a"] * 60)
        self.check(80, "", "a" * 600, ["a" * 600])
        self.check(10, "a1 " * 200, "a" * 600, ["aaaaaaaaa-"] * 66 + ["aaaaaa"])
        for width in (10, 11, 37, 80):
            for text in ("a " * 300, "a" * 600, "a-" * 300, "-" * 600, "\u20ac" * 200, "\u00e9 " * 200, "ab-" * 200):
                self.check_reference(width, "", text)
                self.check_reference(width, "1a " * 200, text)

    def test_against_the_reference(self):
        chance = random.Random(9)
        for size in [600] * 60 + [60] * 1500:
            text = "".join(chance.choice("aaabbbcccdefgABC---   \n\u20ac") for _ in range(size))
            # At most 600 bytes, and no character cut in two.
            text = text.encode("utf-8")[:600].decode("utf-8", "ignore")
            self.check_reference(chance.choice([10, 80, chance.randint(10, 80)]), "b1 1c 2ca a1b3 .aa1 1dd.", text)

    def test_no_line_has_room_for_one_more_piece(self):
        chance = random.Random(10)
        for _ in range(200):
            width = chance.randint(10, 20)
            text = "".join(chance.choice("aabbc-  \u20ac") for _ in range(chance.randint(0, 150)))
            of = reference.pieces(AFTER_B, text)
            answer = greedy_text(width, reference.octets(AFTER_B), reference.octets(text))
            found = bytes(answer[1:]).decode("utf-8").split("\n") if of else []
            at = 0
            for line in found:
                counts = [n for n in range(1, len(of) - at + 1) if reference.line(of[at:at + n]) == line]
                self.assertEqual(len(counts), 1)
                end = at + counts[0]
                self.assertTrue(len(line) <= width or counts == [1])
                if end < len(of):
                    self.assertGreater(len(reference.line(of[at:end + 1])), width)
                at = end
            self.assertEqual(at, len(of))


if __name__ == "__main__":
    unittest.main()
