"""Operation 5: cost_of."""

import random
import unittest

import reference
from plainlayout.typesetting import cost, cost_of

# Divides words of these letters after every "b", where two letters are on each side.
AFTER_B = "b1"

GREATEST = 4294967295


class CostOfTest(unittest.TestCase):
    def check(self, width, patterns, text, counts, wanted):
        answer = cost_of(width, reference.octets(patterns), reference.octets(text), list(counts))
        self.assertEqual(answer, [wanted], (width, patterns, text, counts))
        self.assertIs(type(answer), list)
        self.assertIs(type(answer[0]), int)

    def check_reference(self, width, patterns, text, counts):
        wanted = reference.cost_of_answer(width, patterns, text, counts)
        self.check(width, patterns, text, counts, wanted[0])

    def test_example(self):
        self.check(10, "", "one two three", [1, 2], 49)

    def test_the_other_divisions_of_the_example(self):
        self.check(10, "", "one two three", [2, 1], 9)
        self.check(10, "", "one two three", [1, 1, 1], 49 + 49)
        self.check(10, "", "one two three", [3], -33)

    def test_no_pieces_and_no_counts(self):
        for text in ("", " ", "\n", "\t\r\n ", " " * 600):
            self.check(10, "", text, [], 0)
            self.check(80, AFTER_B, text, [], 0)

    def test_no_pieces_and_counts(self):
        for text in ("", " ", "\n \t"):
            for counts in ([0], [1], [2], [GREATEST], [0, 0], [1, 1], [0] * 20, [1] * 20):
                self.check(10, "", text, counts, -33)

    def test_pieces_and_no_counts(self):
        for text in ("a", "a b", " a\n", "a-b", "a" * 600):
            self.check(10, "", text, [], -33)

    def test_a_count_of_zero(self):
        for counts in ([0, 2], [2, 0], [1, 0, 1], [0, 1, 1], [1, 1, 0], [0], [0, 0], [0, 2, 0], [1] + [0] * 18 + [1]):
            self.check(10, "", "a b", counts, -33)
        self.check(10, "", "a b", [2], 0)

    def test_a_sum_less_than_the_number_of_pieces(self):
        for counts in ([1], [2], [1, 1], [0, 1]):
            self.check(10, "", "a b c", counts, -33)
        self.check(10, "", "a " * 300, [5] * 20, -33)

    def test_a_sum_greater_than_the_number_of_pieces(self):
        for counts in ([4], [2, 2], [1, 1, 2], [3, 1], [1, 1, 1, 1], [2, 1, 1], [3, 3], [100], [1] * 20):
            self.check(10, "", "a b c", counts, -33)

    def test_a_sum_that_is_greater_by_very_much(self):
        for counts in ([GREATEST], [1, GREATEST], [GREATEST, 1], [3, GREATEST], [GREATEST] * 20, [2 ** 31],
                       [2 ** 32 - 3, 3], [GREATEST, 4], [1, 1, GREATEST], [1, 1, 1, GREATEST], [0, GREATEST]):
            self.check(10, "", "a b c", counts, -33)
            self.check(10, "", "aaaaaaaaaaaaaaaaaaaa", counts, -33)

    def test_the_last_line_costs_nothing(self):
        self.check(10, "", "a", [1], 0)
        self.check(10, "", "aaaa bbbbb", [2], 0)
        self.check(10, "", "aaaa bbbbb", [1, 1], 36)
        self.check(10, "", "aaaa bbbbb c", [2, 1], 0)
        self.check(10, "", "aaaa bbbbb c", [1, 2], 36)
        self.check(10, "", "aaaa bbbbb c", [1, 1, 1], 36 + 25)

    def test_a_line_feed_ends_no_division(self):
        self.check(10, "", "a\nb\n\nc", [3], 0)
        self.check(10, "", "a\nb\n\nc", [1, 1, 1], 81 + 81)

    def test_a_line_of_several_pieces_longer_than_the_width(self):
        self.check(10, "", "aaaaa bbbb", [2], 0)
        self.check(10, "", "aaaaa bbbbb", [2], -33)
        self.check(10, "", "aaaaa bbbbb c", [2, 1], -33)
        self.check(10, "", "c aaaaa bbbbb", [1, 2], -33)
        self.check(10, "", "c aaaaa bbbbb d", [1, 2, 1], -33)
        self.check(10, "", "aaaaa-bbbbbb", [2], -33)
        self.check(10, "", "aaaaaaaaaaaa b", [2], -33)
        self.check(10, "", "b aaaaaaaaaaaa", [2], -33)
        self.check(10, AFTER_B, "aaaaaabbccccc", [2, 1], 50 + 1)
        self.check(10, AFTER_B, "aaaaaabbccccc", [3], -33)

    def test_a_line_of_several_pieces_that_is_longer_by_its_hyphen(self):
        self.check(10, AFTER_B, "aabaaaaaabcc", [2, 1], -33)
        self.check(10, AFTER_B, "aabaaaaabcc", [2, 1], 50)
        self.check(10, AFTER_B, "x aaaaaaabcc", [2, 1], -33)
        self.check(10, AFTER_B, "x aaaaaabcc", [2, 1], 50)

    def test_a_line_of_one_piece_longer_than_the_width(self):
        for length in range(11, 601):
            self.check(10, "", "a" * length, [1], 10000 * (length - 10))
        self.check(10, "", "aaaaaaaaaaa b", [1, 1], 10000)
        self.check(10, "", "b aaaaaaaaaaaa", [1, 1], 81 + 20000)
        self.check(80, "", "a" * 600, [1], 5200000)
        self.check(10, "", "aa-bbbbbbbbbbbbbbb-cc", [1, 1, 1], 49 + 60000)

    def test_the_joint_hyphen_costs_50(self):
        self.check(20, AFTER_B, "aabcc", [1, 1], 16 ** 2 + 50)
        self.check(10, AFTER_B, "aaaaaaaabcc", [1, 1], 50)
        self.check(10, AFTER_B, "aaaaaaaaabcc", [1, 1], 10000 + 50)
        self.check(10, AFTER_B, "aabaabcc", [1, 1, 1], 36 + 50 + 36 + 50)
        self.check(10, AFTER_B, "aabaabcc", [2, 1], 9 + 50)
        self.check(10, AFTER_B, "aabaabcc", [1, 2], 36 + 50)
        self.check(10, AFTER_B, "aabaabcc", [3], 0)

    def test_other_joints_cost_nothing(self):
        self.check(10, "", "aaaa-bbb", [1, 1], 25)
        self.check(10, "", "aaaa- bbb", [1, 1], 25)
        self.check(10, AFTER_B, "aabcc dd", [2, 1], 25)

    def test_at_most_20_counts(self):
        self.check(10, "", "a " * 20, [1] * 20, 19 * 81)
        self.check(10, "", "a " * 100, [5] * 20, 19)
        self.check(80, "", "a " * 300, [15] * 20, 19 * 51 ** 2)
        # The first and the last piece have two letters, the 176 between them one.
        self.check(10, "a1", "a" * 180, [8] + [9] * 18 + [8], 19 * 50)
        self.check(10, "a1", "a" * 180, [8] + [9] * 18 + [9], -33)

    def test_lengths_are_numbers_of_code_points(self):
        for letter in ("\u00e9", "\u20ac", "\U0001f600"):
            self.check(10, "", f"{letter * 4} {letter * 5} {letter}", [2, 1], 0)
            self.check(10, "", f"{letter * 5} {letter * 5}", [2], -33)
            self.check(10, "", letter * 12, [1], 20000)

    def test_the_best_counts_cost_what_the_best_division_costs(self):
        chance = random.Random(11)
        tried = 0
        while tried < 300:
            width = chance.choice([10, 11, 20, 80])
            text = "".join(chance.choice("aaabbbccc--   \n") for _ in range(chance.randint(0, width * 8)))[:600]
            of = reference.pieces(AFTER_B, text)
            counts = reference.best(width, of)
            if len(counts) <= 20:
                tried += 1
                octets = reference.octets(text)
                least = cost(width, [98, 49], octets)
                self.assertEqual(least, [cost_of(width, [98, 49], octets, list(counts))[0], len(counts)])

    def test_every_division_of_a_few_pieces(self):
        for text in ("aaa bb-cccc aabcc ddddddddddddd", "aabaabaab x-y", "aaaaaa bbbb", "aa bb cc dd ee ff gg"):
            of = reference.pieces(AFTER_B, text)
            for counts in reference.all_divisions(len(of)):
                self.check_reference(10, AFTER_B, text, counts)

    def test_against_the_reference(self):
        chance = random.Random(12)
        kinds = {True: 0, False: 0}
        for _ in range(4000):
            text = "".join(chance.choice("aabbc-   \u20ac") for _ in range(chance.randint(0, 30)))
            width = chance.choice([10, 11, 14, 80])
            size = len(reference.pieces(AFTER_B, text))
            counts = []
            while sum(counts) < size and len(counts) < 19:
                counts.append(chance.randint(1, 4))
            counts = chance.choice([counts, counts + [1], counts[:-1]])
            if counts and chance.random() < 0.7:
                counts[-1] = max(0, counts[-1] + size - sum(counts))
            self.check_reference(width, AFTER_B, text, counts)
            kinds[reference.cost_of_answer(width, AFTER_B, text, counts) == [-33]] += 1
        self.assertGreater(min(kinds.values()), 1000)


if __name__ == "__main__":
    unittest.main()
