"""Operation 2: break_text."""

import random
import unittest

import reference
from plainlayout.typesetting import break_text

# Divides words of these letters after every "b", where two letters are on each side.
AFTER_B = "b1"


class BreakTextTest(unittest.TestCase):
    def check(self, width, patterns, text, lines):
        answer = break_text(width, reference.octets(patterns), reference.octets(text))
        self.assertEqual(answer, reference.as_answer(lines))
        self.assertIs(type(answer), list)
        for number in answer:
            self.assertIs(type(number), int)

    def check_reference(self, width, patterns, text):
        with self.subTest(width=width, patterns=patterns, text=text):
            answer = break_text(width, reference.octets(patterns), reference.octets(text))
            self.assertEqual(answer, reference.broken(width, patterns, text))

    def test_example(self):
        self.check(10, "", "one two three", ["one two", "three"])

    def test_the_form_of_the_answer(self):
        self.assertEqual(break_text(10, [], [97, 32, 98]), [3, 97, 32, 98])
        self.assertEqual(break_text(10, [], [97] * 9 + [32, 98, 98]), [12] + [97] * 9 + [10, 98, 98])

    def test_no_pieces(self):
        for text in ("", " ", "\n", " \t\r\n \n"):
            self.assertEqual(break_text(10, [], reference.octets(text)), [0])

    def test_white_space_is_one_space_in_a_line(self):
        self.check(20, "", "  a\tb\n\nc\r\nd   e \n", ["a b c d e"])

    def test_other_spaces_are_characters_of_words(self):
        self.check(10, "", "aaaaa\u00a0bbbbb\u2003c d", ["aaaaa\u00a0bbbbb\u2003c", "d"])
        self.check(10, "", "aaaa\u000bbbbbb\u000cc d", ["aaaa\u000bbbbbb\u000cc", "d"])
        self.check(10, "", "a\u0000 \u0085 \u2028", ["a\u0000 \u0085 \u2028"])

    def test_a_line_of_just_the_width(self):
        self.check(10, "", "aaaa bbbbb cc", ["aaaa bbbbb", "cc"])
        self.check(10, "", "aaaa bbbbbb cc", ["aaaa", "bbbbbb cc"])
        self.check(10, "", "aaaaaaaaaa b", ["aaaaaaaaaa", "b"])

    def test_the_joint_plain(self):
        self.check(10, "", "aaaaaa-bbbbbb", ["aaaaaa-", "bbbbbb"])
        self.check(10, "", "aaaa-bbbbb", ["aaaa-bbbbb"])
        self.check(10, "", "aaaa-bbbbb-ccc", ["aaaa-", "bbbbb-ccc"])
        self.check(10, "", "x aaaa-bbb cccc", ["x aaaa-bbb", "cccc"])

    def test_the_joint_hyphen(self):
        self.check(10, "aab1c", "aaaaaaabcccccc", ["aaaaaaab-", "cccccc"])
        self.check(20, "aab1c", "aaaaaaabcccccc", ["aaaaaaabcccccc"])
        self.check(10, AFTER_B, "xx aaab aaabcc", ["xx aaab", "aaabcc"])
        self.check(10, AFTER_B, "aaaaabaaaabaac", ["aaaaab-", "aaaabaac"])

    def test_the_joint_space(self):
        self.check(10, "", "aaaaaa bbbbbb cc", ["aaaaaa", "bbbbbb cc"])

    def test_hyphen_at_the_start_of_a_word(self):
        self.check(10, "", "aaaaaaaaa -bbbbb", ["aaaaaaaaa", "-bbbbb"])
        self.check(10, "", "aaaaaaaa -bbbbb", ["aaaaaaaa -", "bbbbb"])
        self.check(10, "", "-bbbbbbbbbb", ["-", "bbbbbbbbbb"])
        self.check(10, "", "-bbbbbbbbb", ["-bbbbbbbbb"])

    def test_hyphen_at_the_end_of_a_word(self):
        self.check(10, "", "aaaaaaaaaa-", ["aaaaaaaaaa-"])
        self.check(10, "", "aaaa- bbbbbbbb", ["aaaa-", "bbbbbbbb"])
        self.check(10, "", "aaaa- bbbb", ["aaaa- bbbb"])

    def test_several_hyphens_together(self):
        self.check(10, "", "aaaaa---bbbbbb", ["aaaaa---", "bbbbbb"])
        self.check(10, "", "aaaaaaaaa---b", ["aaaaaaaaa---", "b"])
        self.check(10, "", "------------", ["------------"])
        self.check(10, "", "---aaaaaaaaaa", ["---", "aaaaaaaaaa"])
        self.check(10, "", "aaaaaaaaaa---", ["aaaaaaaaaa---"])
        self.check(10, "", "a - b -- c", ["a - b -- c"])
        self.check(10, "", "aa-bb-cc-dd-ee", ["aa-bb-cc-", "dd-ee"])

    def test_only_parts_of_letters_are_hyphenated(self):
        # The part "aabaaaaaac-" has a "-" in it, so that it can't be divided as a word.
        self.check(10, AFTER_B, "aabaaaaaac-aabaaaaaacc", ["aabaaaaaac-", "aab-", "aaaaaacc"])
        self.check(10, AFTER_B, "-aabaaaaaac", ["-aab-", "aaaaaac"])
        self.check(10, AFTER_B, "aabaaaaaacc-", ["aabaaaaaacc-"])
        self.check(10, AFTER_B, "aabaaaaaacc.", ["aabaaaaaacc."])
        self.check(10, AFTER_B, "aabaaaaaac1 \u00e4abaaaaaacc", ["aabaaaaaac1", "\u00e4abaaaaaacc"])

    def test_a_part_is_a_word_of_its_own_for_points(self):
        self.check(10, ".aa1b", "aaaaaaa-aabbbbbbbbb", ["aaaaaaa-", "aa-", "bbbbbbbbb"])

    def test_capital_letters_stay(self):
        self.check(10, "aab1c", "AAAAAAABCCCCCC", ["AAAAAAAB-", "CCCCCC"])

    def test_a_piece_longer_than_the_width(self):
        self.check(10, "", "aaaaaaaaaaaaaaa", ["aaaaaaaaaaaaaaa"])
        self.check(10, "", "a bbbbbbbbbbbbbbb c", ["a", "bbbbbbbbbbbbbbb", "c"])
        self.check(10, "", "aa-bbbbbbbbbbbbbbb-cc", ["aa-", "bbbbbbbbbbbbbbb-", "cc"])

    def test_a_hyphen_beyond_the_width(self):
        # With its "-" the first piece has 11 characters; it's a line of its own all the same.
        self.check(10, AFTER_B, "aaaaaaaaabcc", ["aaaaaaaaab-", "cc"])
        self.check(10, AFTER_B, "aaaaaaaabcc", ["aaaaaaaab-", "cc"])
        self.check(10, AFTER_B, "x aaaaaaabcc", ["x", "aaaaaaabcc"])
        self.check(10, AFTER_B, "x aaaaaaabccc", ["x", "aaaaaaab-", "ccc"])

    def test_the_last_line_costs_nothing(self):
        # If "ccc d" cost 25, "bbb ccc d" would come together in the last line.
        self.check(10, "", "aaa bbb ccc d", ["aaa bbb", "ccc d"])
        self.check(10, "", "aaaa bbb cc", ["aaaa bbb", "cc"])
        self.check(10, "", "a b", ["a b"])

    def test_a_line_feed_ends_no_division(self):
        self.check(10, "", "a\nb\n\nc", ["a b c"])
        self.check(10, "", "aaaaa bbb\nccc ddddddd", ["aaaaa", "bbb ccc", "ddddddd"])

    def test_a_last_line_beyond_the_width(self):
        self.check(10, AFTER_B, "aabaaaaaaaaaaaaaaa", ["aab-", "aaaaaaaaaaaaaaa"])
        self.check(10, "", "aaa aaaaaaaaaaaaaaa", ["aaa", "aaaaaaaaaaaaaaa"])

    def test_a_hyphen_costs_50(self):
        # Without a hyphen the first line costs 7 ^ 2 = 49, then 8 ^ 2 = 64; with it there is no free space: 50.
        self.check(10, "a1c", "aaa bbbbacc", ["aaa", "bbbbacc"])
        self.check(10, "a1c", "aa bbbbbacc", ["aa bbbbba-", "cc"])

    def test_the_best_is_not_the_greedy_division(self):
        self.check(10, "", "aaaaa bbb ccc ddddddd", ["aaaaa", "bbb ccc", "ddddddd"])
        self.check(10, "", "aaaaaa bbb cccc ddddddd", ["aaaaaa", "bbb cccc", "ddddddd"])
        self.check(10, "", "a bb ccccccc d", ["a bb", "ccccccc d"])

    def test_of_equal_divisions_the_first_line_has_most_pieces(self):
        self.check(10, "", "aaaaaa b cccccc ddddd", ["aaaaaa b", "cccccc", "ddddd"])
        self.check(10, "", "aaaa bbbb cccc ddddddd", ["aaaa bbbb", "cccc", "ddddddd"])
        self.check(10, "", "aa bbb ccc dddddd eeeee", ["aa bbb ccc", "dddddd", "eeeee"])

    def test_of_equal_first_lines_the_second_has_most_pieces(self):
        self.check(10, "", "aaa bbbbb ccc ddddd eee fffffff", ["aaa bbbbb", "ccc ddddd", "eee", "fffffff"])
        self.check(10, "", "aaaaaaaaaa bbbbbb c dddddd eeeee", ["aaaaaaaaaa", "bbbbbb c", "dddddd", "eeeee"])

    def test_lengths_are_numbers_of_code_points(self):
        for letter in ("\u00e9", "\u07ff", "\u0800", "\u20ac", "\uffff", "\U00010000", "\U0001f600", "\U0010ffff"):
            self.check(10, "", f"{letter * 4} {letter * 5} {letter}", [f"{letter * 4} {letter * 5}", letter])
            self.check(10, "", f"{letter * 5} {letter * 5} {letter}", [letter * 5, f"{letter * 5} {letter}"])

    def test_combining_characters_count_as_characters(self):
        self.check(10, "", "e\u0301e\u0301e\u0301 aaa b", ["e\u0301e\u0301e\u0301 aaa", "b"])
        self.check(10, "", "e\u0301e\u0301e\u0301 aaaa b", ["e\u0301e\u0301e\u0301", "aaaa b"])

    def test_the_edges_of_utf8(self):
        for code in (0x00, 0x7F, 0x80, 0x7FF, 0x800, 0xD7FF, 0xE000, 0xFFFD, 0xFEFF, 0xFFFF, 0x10000, 0x3FFFF,
                     0x40000, 0xFFFFF, 0x100000, 0x10FFFF):
            self.check(10, "", chr(code), [chr(code)])

    def test_every_kind_of_code_point(self):
        for code in list(range(33, 0x3000)) + list(range(0x3000, 0x110000, 997)):
            if not 0xD800 <= code < 0xE000:
                octets = list(chr(code).encode("utf-8"))
                self.assertEqual(break_text(10, [], octets), [len(octets)] + octets)

    def test_the_least_and_the_greatest_width(self):
        words = " ".join(["abcd"] * 30)
        self.check(10, "", words, ["abcd abcd"] * 15)
        self.check(80, "", words, [" ".join(["abcd"] * 16), " ".join(["abcd"] * 14)])
        self.check(80, "", "a" * 40 + " " + "b" * 39 + " c", ["a" * 40 + " " + "b" * 39, "c"])
        self.check(80, "", "a" * 40 + " " + "b" * 40 + " c", ["a" * 40, "b" * 40 + " c"])
        self.check(80, "", "a" * 81 + " b", ["a" * 81, "b"])

    def test_long_lists(self):
        for width in (10, 11, 37, 80):
            self.check_reference(width, "", "a" * 600)
            self.check_reference(width, "", "a " * 300)
            self.check_reference(width, "", "a-" * 300)
            self.check_reference(width, "", "-" * 600)
            self.check_reference(width, "", " " * 600)
            self.check_reference(width, "a1 " * 200, "a" * 600)
            self.check_reference(width, "a1" * 300, "aaaa " * 120)
            self.check_reference(width, "1a " * 200, "ab-" * 200)
            self.check_reference(width, "", "\u20ac" * 200)
            self.check_reference(width, "", "\u00e9 " * 200)

    def test_long_texts_against_the_reference(self):
        chance = random.Random(2)
        for _ in range(60):
            text = "".join(chance.choice("aaabbbcccdefgABC---   \n") for _ in range(600))
            self.check_reference(chance.randint(10, 80), "b1 1c 2ca a1b3 .aa1 1dd.", text)

    def test_short_texts_against_all_divisions(self):
        chance = random.Random(3)
        for _ in range(1500):
            text = self.some_text(chance)
            patterns = chance.choice(["", "b1", "1a b2c", "a1b c1c 1b"])
            width = chance.choice([10, 10, 11, 12, 15])
            of = reference.pieces(patterns, text)[:11]
            text = "".join(piece + (" " if joint == "space" else "") for piece, joint in of)
            of = reference.pieces(patterns, text)
            if len(of) <= 11:
                with self.subTest(width=width, patterns=patterns, text=text):
                    answer = break_text(width, reference.octets(patterns), reference.octets(text))
                    lines = reference.lines(of, reference.best_of_all(width, of))
                    self.assertEqual(answer, reference.as_answer(lines))

    def some_text(self, chance):
        words = []
        for _ in range(chance.randint(1, 9)):
            words.append("".join(chance.choice("aaabbbccc-\u00e9") for _ in range(chance.randint(1, 9))))
        return " ".join(words)

    def test_lines_keep_their_pieces_and_widths(self):
        chance = random.Random(4)
        for _ in range(300):
            width = chance.randint(10, 20)
            text = "".join(chance.choice("aabbcc-  \u20ac") for _ in range(chance.randint(0, 150)))
            patterns = "b1 1a"
            answer = break_text(width, reference.octets(patterns), reference.octets(text))
            found = bytes(answer[1:]).decode("utf-8")
            singles = [reference.line([piece]) for piece in reference.pieces(patterns, text)]
            for line in found.split("\n"):
                self.assertTrue(len(line) <= width or line in singles)
            together = found.replace("\n", "").replace(" ", "").replace("-", "")
            self.assertEqual(together, "".join(reference.words(text)).replace("-", ""))

    def test_two_letters_on_each_side_of_a_hyphen(self):
        chance = random.Random(5)
        hyphens = 0
        for _ in range(200):
            text = "".join(chance.choice("aabbccABC ") for _ in range(100))
            answer = break_text(10, reference.octets("1a 1b 1c a1 b1 c1"), reference.octets(text))
            for word in reference.words(bytes(answer[1:]).decode("utf-8").replace("-\n", "|")):
                for at, letter in enumerate(word):
                    if letter == "|":
                        hyphens += 1
                        self.assertGreaterEqual(len(word[:at].replace("|", "")), 2)
                        self.assertGreaterEqual(len(word[at:].replace("|", "")), 2)
        self.assertGreater(hyphens, 100)


if __name__ == "__main__":
    unittest.main()
