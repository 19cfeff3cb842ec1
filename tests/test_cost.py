"""Operation 3: cost."""

import random
import unittest

import reference
from plainlayout.typesetting import break_text, cost

# Divides words of these letters after every "b", where two letters are on each side.
AFTER_B = "b1"


class CostTest(unittest.TestCase):
    def check(self, width, patterns, text, wanted):
        answer = cost(width, reference.octets(patterns), reference.octets(text))
        self.assertEqual(answer, wanted)
        self.assertIs(type(answer), list)
        for number in answer:
            self.assertIs(type(number), int)

    def check_reference(self, width, patterns, text):
        with self.subTest(width=width, patterns=patterns, text=text):
            self.check(width, patterns, text, reference.cost_answer(width, patterns, text))

    def test_example(self):
        self.check(10, "", "one two three", [9, 2])

    def test_no_words(self):
        for text in ("", " ", "\n", "\t", "\r", " \t\r\n \n", " " * 600, "\n" * 600):
            self.check(10, "", text, [0, 0])
            self.check(80, "a1", text, [0, 0])

    def test_one_line(self):
        for text in ("a", "a b", " a\n\nb ", "aaaa bbbbb", "aaaaaaaaaa", "aaaa-bbbbb", "-", "\u20ac"):
            self.check(10, "", text, [0, 1])
            self.check(80, "", text, [0, 1])
        self.check(80, "", "a" * 40 + " " + "b" * 39, [0, 1])

    def test_the_square_of_the_free_space(self):
        for length in range(1, 11):
            self.check(10, "", "a" * length + " " + "b" * 10, [(10 - length) ** 2, 2])
        for length in range(1, 81):
            self.check(80, "", "a" * length + " " + "b" * 80, [(80 - length) ** 2, 2])

    def test_several_lines(self):
        self.check(10, "", "aaaaa bbb ccc ddddddd", [25 + 9, 3])
        self.check(10, "", "aaaaaaaa bbbbbb cccccc ddd", [4 + 16, 3])
        self.check(10, "", "aaaaaaaaaa bbbbbbbbbb cccccccccc", [0, 3])

    def test_the_last_line_costs_nothing(self):
        self.check(10, "", "aaaaaaaaaa b", [0, 2])
        self.check(10, "", "aaa bbb ccc d", [9, 2])

    def test_a_line_feed_ends_no_division(self):
        self.check(10, "", "a\nb\n\nc", [0, 1])
        self.check(10, "", "aaaaaaa\nbbbbbbb\n\nccc\n", [9 + 9, 3])

    def test_a_piece_longer_than_the_width(self):
        for length in range(11, 601):
            self.check(10, "", "a" * length, [10000 * (length - 10), 1])
        self.check(80, "", "a" * 81, [10000, 1])
        self.check(80, "", "a" * 600, [5200000, 1])

    def test_a_piece_longer_than_the_width_ahead_of_others(self):
        self.check(10, "", "aaaaaaaaaaa b", [10000, 2])
        self.check(10, "", "aaaaaaaaaaaaa b", [30000, 2])
        self.check(10, "", "a bbbbbbbbbbbbbbb c", [81 + 50000, 3])

    def test_a_piece_longer_than_the_width_in_the_last_line(self):
        self.check(10, "", "b aaaaaaaaaaa", [81 + 10000, 2])
        self.check(10, "", "bbbbbbbbbb aaaaaaaaaaaaa", [30000, 2])

    def test_several_pieces_longer_than_the_width(self):
        self.check(10, "", "aaaaaaaaaaa bbbbbbbbbbbb ccccccccccccc", [60000, 3])

    def test_the_joint_plain_costs_nothing(self):
        self.check(10, "", "aaaaaaaaa-bbbbbb", [0, 2])
        self.check(10, "", "aaaaaa-bbbbbb", [9, 2])
        self.check(10, "", "aa-bbbbbbbbbbbbbbb-cc", [49 + 60000, 3])

    def test_the_hyphen_of_a_word_costs_nothing(self):
        self.check(10, "", "aaaaaaaaa- bbbbbb", [0, 2])
        self.check(10, "", "aaaaaaaaa -bbbbb", [1, 2])
        self.check(10, "", "aaaaaaaa -bbbbb", [0, 2])

    def test_the_joint_hyphen_costs_50(self):
        self.check(10, "a1c", "aa bbbbbacc", [50, 2])
        self.check(10, "aab1c", "aaaaaaabcccccc", [50 + 1, 2])
        self.check(10, AFTER_B, "aaaaabaaaabaac", [50 + 9, 2])
        self.check(80, AFTER_B, "c" * 70 + "b" + "c" * 20, [50 + 64, 2])

    def test_the_joint_hyphen_inside_a_line_costs_nothing(self):
        self.check(20, AFTER_B, "aabaabaac", [0, 1])
        self.check(10, AFTER_B, "aabaabcc ddddd", [4, 2])

    def test_the_joint_hyphen_is_weighed_against_free_space(self):
        # Without it the first line costs 49, which is less than 50; then 64, which is more.
        self.check(10, "a1c", "aaa bbbbacc", [49, 2])
        self.check(10, "a1c", "aa bbbbbacc", [50, 2])

    def test_the_hyphen_counts_in_the_length(self):
        self.check(10, AFTER_B, "aaaaaaaabcc", [50, 2])
        self.check(10, AFTER_B, "aaaaaaaaabcc", [10000 + 50, 2])
        self.check(10, AFTER_B, "aaaaaaaaaaaaaabcc", [60000 + 50, 2])

    def test_of_equal_divisions_the_one_with_most_pieces_in_the_first_line(self):
        # The others of the same cost have three lines: "aaa", "bbbbzyyyy" and "c" cost 49 + 1.
        self.check(10, "z1", "aaa bbbbzyyyy c", [50, 2])
        self.check(11, "z1", "aaaa bbbbzyyyyy cc", [50, 2])
        self.check(13, "z1", "aaaaaa bbbbzyyy c d ee", [50, 2])
        self.check(20, "z1", "aaaaaaaa-xxxx bbbbzyyyy cccccccc-xx", [50, 2])

    def test_lengths_are_numbers_of_code_points(self):
        for letter in ("\u00e9", "\u20ac", "\U0001f600"):
            self.check(10, "", f"{letter * 7} {letter * 4}", [9, 2])
            self.check(10, "", letter * 12, [20000, 1])

    def test_long_lists_of_one_letter_words(self):
        # 5 words make a line of 9 characters, 40 words one of 79.
        self.check(10, "", "a " * 300, [59, 60])
        self.check(80, "", "a " * 300, [7, 8])
        self.check(10, "", "a-" * 300, [0, 60])
        self.check(80, "", "a-" * 300, [0, 8])

    def test_one_long_word(self):
        self.check(10, "", "a" * 600, [5900000, 1])
        self.check(80, "", "-" * 600, [5200000, 1])
        self.check(10, "", "a" * 590 + " bbbbbbbbb", [5800000, 2])
        # Lines of 9 letters and "-" cost 50 each; 66 of them leave a last line of 6.
        self.check(10, "a1 " * 200, "a" * 600, [66 * 50, 67])
        self.check(80, "a1 " * 200, "a" * 600, [7 * 50, 8])

    def test_long_lists_against_the_reference(self):
        for width in (10, 11, 37, 80):
            for text in ("a " * 300, "a" * 600, "-" * 600, "\u20ac" * 200, "\u00e9 " * 200, "ab-" * 200):
                self.check_reference(width, "", text)
                self.check_reference(width, "1a " * 200, text)

    def test_long_texts_against_the_reference(self):
        chance = random.Random(6)
        for _ in range(60):
            text = "".join(chance.choice("aaabbbcccdefgABC---   \n") for _ in range(600))
            self.check_reference(chance.choice([10, 80, chance.randint(10, 80)]), "b1 1c 2ca a1b3 .aa1 1dd.", text)

    def test_no_division_costs_less(self):
        chance = random.Random(7)
        for _ in range(1500):
            text = self.some_text(chance)
            patterns = chance.choice(["", "b1", "1a b2c", "a1b c1c 1b"])
            width = chance.choice([10, 10, 11, 12, 15])
            of = reference.pieces(patterns, text)
            if len(of) <= 11:
                with self.subTest(width=width, patterns=patterns, text=text):
                    counts = reference.best_of_all(width, of)
                    self.check(width, patterns, text, [reference.division_cost(width, of, counts), len(counts)])

    def some_text(self, chance):
        words = []
        for _ in range(chance.randint(1, 7)):
            word = "".join(chance.choice("aabbcc") for _ in range(chance.choice([1, 2, 3, 3, 4, 5, 6, 12])))
            words.append(chance.choice(["", "", "", "-", "c-"]) + word)
        return " ".join(words)

    def test_as_many_lines_as_break_text(self):
        chance = random.Random(8)
        for _ in range(200):
            width = chance.randint(10, 30)
            text = reference.octets("".join(chance.choice("aabbc-  ") for _ in range(chance.randint(0, 150))))
            broken = break_text(width, [98, 49], text)
            lines = bytes(broken[1:]).count(b"\n") + 1 if broken != [0] else 0
            self.assertEqual(cost(width, [98, 49], text)[1], lines)


if __name__ == "__main__":
    unittest.main()
