"""Operation 1: hyphenate."""

import random
import unittest

import reference
from plainlayout.typesetting import hyphenate


class HyphenateTest(unittest.TestCase):
    def check(self, patterns, word, positions):
        answer = hyphenate(reference.octets(patterns), reference.octets(word))
        self.assertEqual(answer, [len(positions)] + positions)
        self.assertIs(type(answer), list)
        for number in answer:
            self.assertIs(type(number), int)

    def test_examples(self):
        self.check("hy3ph he2n .be5t", "hyphen", [2])
        self.check("a1b", "abca", [])

    def test_a_digit_inside(self):
        self.check("b1c", "abcd", [2])
        self.check("ab1cd", "abcdabcd", [2, 6])

    def test_a_digit_at_the_start(self):
        self.check("1cd", "abcd", [2])
        self.check("3c", "abcdcc", [2, 4])

    def test_a_digit_at_the_end(self):
        self.check("ab1", "abcd", [2])
        self.check("b5", "abbbcd", [2, 3, 4])

    def test_several_digits_in_one_pattern(self):
        self.check("1c1d1e1", "abcdefg", [2, 3, 4, 5])
        self.check("1c2d3e4", "abcdefg", [2, 4])

    def test_a_pattern_without_digits(self):
        self.check("abcd", "abcd", [])
        self.check("c a1bc", "xabcd", [2])

    def test_a_point_at_the_start(self):
        self.check(".be5t", "better", [2])
        self.check(".be5t", "abetter", [])

    def test_a_point_at_the_end(self):
        self.check("1en.", "oxen", [2])
        self.check("1en.", "tenens", [])
        self.check("1en.", "tenenen", [5])

    def test_points_at_both_ends(self):
        self.check(".ab1cd.", "abcd", [2])
        self.check(".ab1cd.", "abcde", [])
        self.check(".ab1cd.", "xabcd", [])

    def test_points_inside_occur_nowhere(self):
        self.check("b1.c ..1a b1..", "abcabc", [])
        self.check("b.1c", "abcabc", [])

    def test_a_point_alone(self):
        self.check("1.1", "abcdef", [])

    def test_levels_around_a_point(self):
        self.check("9.9a9", "aaaaa", [])
        self.check(".a1b1", "abcd", [2])

    def test_every_level(self):
        for level in range(10):
            self.check(f"b{level}c", "abcd", [2] if level % 2 else [])

    def test_the_greatest_level_counts(self):
        self.check("b1c ab2cd", "abcd", [])
        self.check("ab2cd b1c", "abcd", [])
        self.check("b2c ab3cd", "abcd", [2])
        self.check("ab3cd b2c", "abcd", [2])
        self.check("b9c b8c", "abcd", [2])
        self.check("ab1 1cd 2c", "abcd", [])
        self.check("ab1 3cd 2c", "abcd", [2])
        self.check("b1c bc", "abcd", [2])

    def test_one_pattern_at_several_overlapping_places(self):
        self.check("a1a", "aaaaaa", [2, 3, 4])
        self.check("1aba2b", "xxabababxx", [2, 4])
        self.check("1ab2ab", "xxabababxx", [2])
        self.check("a2a1a", "aaaaaaa", [])
        self.check("a2a1b", "aaaabb", [4])

    def test_levels_are_not_those_of_a_neighbour(self):
        self.check("c1d", "abcdef", [3])
        self.check("1d", "abcdef", [3])
        self.check("c1", "abcdef", [3])

    def test_at_least_two_letters_on_each_side(self):
        self.check("1a1", "", [])
        self.check("1a1", "a", [])
        self.check("1a1", "aa", [])
        self.check("1a1", "aaa", [])
        self.check("1a1", "aaaa", [2])
        self.check("1a1", "aaaaa", [2, 3])
        self.check("1a1", "aaaaaaa", [2, 3, 4, 5])

    def test_capital_letters_in_the_word(self):
        self.check("hy3ph", "HYPHEN", [2])
        self.check("hy3ph", "hYpHen", [2])
        self.check("az1az", "AZAZ", [2])
        self.check("z1a", "aZAz", [2])

    def test_words_with_other_characters(self):
        for word in ("abcd1", "ab-cd", "-abcd", "abcd-", "ab.cd", ".abcd", "abcd.", "ab cd", " abcd", "abcd ",
                     "abcd\n", "abcd\u00e9", "\u00c0bcd", "ab'cd", "ab@cd", "ab[cd", "ab`cd", "ab{cd", "\u0131bcd",
                     "\u212aabcd", "\u0130bcd", "abcd\u0000", "\U0001f600", "ab\u00adcd", "\uff41bcd"):
            self.check("b1c 1a1 1b1 1c1 1d1", word, [])
        self.check("b1c", "abcd", [2])

    def test_every_ascii_character(self):
        for code in range(128):
            letter = chr(code)
            self.check("b1c", "abc" + letter, [2] if letter.isalpha() else [])

    def test_every_letter_in_patterns(self):
        for letter in "abcdefghijklmnopqrstuvwxyz":
            self.check(f"{letter}1", f"A{letter.upper()}{letter}A", [2])

    def test_an_empty_word(self):
        self.check("", "", [])
        self.check("1a .1 1. 1.1", "", [])

    def test_no_patterns(self):
        self.check("", "hyphenation", [])
        self.check(" \t\r\n ", "hyphenation", [])

    def test_white_space_between_patterns(self):
        for space in (" ", "\t", "\n", "\r", "\r\n", " \t \n\n"):
            self.check(f"{space}b1c{space}d1e{space}", "abcdef", [2, 4])

    def test_a_pattern_longer_than_the_word(self):
        self.check("ab1cdefgh b1c", "abcd", [2])
        self.check("ab1cdefgh", "abcd", [])
        self.check("ab1cd..", "abcd", [])

    def test_long_lists(self):
        self.check("a1" * 300, "a" * 600, list(range(2, 599)))
        self.check("a1 " * 200, "a" * 600, list(range(2, 599)))
        self.check(".a" + "a" * 595 + "1aa", "a" * 600, [596])
        self.check("." + "a" * 300 + "1", "a" * 600, [300])
        self.check("a" * 599 + "1", "a" * 600, [])

    def test_against_the_reference(self):
        chance = random.Random(1)
        for _ in range(3000):
            patterns = " ".join(self.some_pattern(chance) for _ in range(chance.randint(0, 6)))
            word = "".join(chance.choice("abcABC") for _ in range(chance.randint(0, 12)))
            with self.subTest(patterns=patterns, word=word):
                self.check(patterns, word, reference.positions(patterns, word))

    def some_pattern(self, chance):
        digits = ["", "", "1", "2", "3", "4", "9"]
        letters = "".join(chance.choice(digits) + chance.choice("abc") for _ in range(chance.randint(1, 3)))
        start = chance.choice(["", "", "", "."])
        end = chance.choice(["", "", "", "."])
        return chance.choice(digits) * len(start) + start + letters + chance.choice(digits) + end


if __name__ == "__main__":
    unittest.main()
