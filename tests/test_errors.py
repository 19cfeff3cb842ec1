"""The errors of the operations, and the order in which they are looked for."""

import itertools
import unittest

import reference
from plainlayout.typesetting import break_text, cost, cost_of, greedy_text, hyphenate, justify

NOT_PATTERNS = ("A", "aB", "a1B", "12a", "a12", "a12b", "1", "9", "1 a", "a 1", "a b 22", "a-b", "a,b", "\u00e4",
                "a\u00e9", "\u0661a", "a\u0663", "\u00b2a", "a\u0000", "a\u00a0b", "a\u000bb", "\u000c", "{", "`", "@",
                "/a", ":a", "a\u2028b", "\ufeffa", "\U0001f600")

NOT_UTF8 = (
    # a continuation byte that none goes before
    [0x80], [0xBF], [0x61, 0xA0], [0xC3, 0xA9, 0xA9], [0xE2, 0x82, 0xAC, 0x80], [0xF0, 0x9F, 0x98, 0x80, 0x80],
    # incomplete
    [0xC3], [0xE2], [0xE2, 0x82], [0xF0], [0xF0, 0x9F], [0xF0, 0x9F, 0x98], [0xC3, 0x61], [0xE2, 0x82, 0x61],
    [0xE2, 0x61, 0x82], [0xF0, 0x9F, 0x98, 0x20], [0xF0, 0x9F, 0x20, 0x80], [0xF0, 0x20, 0x9F, 0x80], [0xC3, 0xC3],
    [0xC3, 0x7F], [0xC3, 0xC0], [0xE2, 0x82, 0xC0], [0xE2, 0x82, 0xE2, 0x82, 0xAC], [0xC3, 0xFF],
    # overlong
    [0xC0, 0x80], [0xC0, 0xAF], [0xC1, 0xBF], [0xC1, 0xA1], [0xE0, 0x80, 0x80], [0xE0, 0x81, 0xA1],
    [0xE0, 0x9F, 0xBF], [0xF0, 0x80, 0x80, 0x80], [0xF0, 0x80, 0x81, 0xA1], [0xF0, 0x8F, 0xBF, 0xBF],
    # surrogates
    [0xED, 0xA0, 0x80], [0xED, 0xAD, 0xBF], [0xED, 0xAE, 0x80], [0xED, 0xBF, 0xBF],
    [0xED, 0xA0, 0xBD, 0xED, 0xB8, 0x80],
    # above U+10FFFF, and bytes that stand nowhere
    [0xF4, 0x90, 0x80, 0x80], [0xF5, 0x80, 0x80, 0x80], [0xF7, 0xBF, 0xBF, 0xBF], [0xF8, 0x88, 0x80, 0x80, 0x80],
    [0xFB, 0xBF, 0xBF, 0xBF, 0xBF], [0xFC, 0x84, 0x80, 0x80, 0x80, 0x80], [0xFD], [0xFE], [0xFF], [0xFF, 0xFE],
    [0xC0], [0xC1], [0xF5], [0xF8],
)

WRONG_WIDTHS = (0, 1, 9, 81, 82, 100, 255, 4294967295)


def with_counts(counts):
    return lambda width, patterns, text: cost_of(width, patterns, text, list(counts))


# Those that take a width, patterns and a text; cost_of with some counts that fit and some that don't.
OPERATIONS = (break_text, cost, greedy_text) + tuple(with_counts(counts) for counts in ([], [0], [1], [4294967295]))


class ErrorsTest(unittest.TestCase):
    def check(self, wanted, width, patterns, text):
        for operation in OPERATIONS:
            with self.subTest(operation=operation, width=width, patterns=patterns, text=text):
                self.assertEqual(operation(width, patterns, text), wanted)

    def check_no_words(self, width, patterns):
        octets = reference.octets(patterns)
        with self.subTest(width=width, patterns=patterns):
            self.assertEqual(hyphenate(octets, []), [0])
            self.assertEqual(break_text(width, octets, []), [0])
            self.assertEqual(cost(width, octets, []), [0, 0])
            self.assertEqual(greedy_text(width, octets, []), [0])
            self.assertEqual(cost_of(width, octets, [], []), [0])

    def test_widths(self):
        for width in WRONG_WIDTHS:
            self.check([-22], width, [], [97])
            self.assertEqual(justify(width, [97]), [-22])
        for width in range(10, 81):
            self.assertEqual(break_text(width, [], [97]), [1, 97])
            self.assertEqual(cost(width, [], [97]), [0, 1])
            self.assertEqual(greedy_text(width, [], [97]), [1, 97])
            self.assertEqual(cost_of(width, [], [97], [1]), [0])
            self.assertEqual(justify(width, [97]), [1, 97])

    def test_the_width_is_checked_first(self):
        for width in WRONG_WIDTHS:
            self.check([-22], width, [0xFF], [97])
            self.check([-22], width, [65], [97])
            self.check([-22], width, [], [0xFF])
            self.check([-22], width, [65], [0xFF])
            self.check([-22], width, [], [])
            self.assertEqual(justify(width, [0xFF]), [-22])
            self.assertEqual(justify(width, []), [-22])

    def test_bytes_that_are_not_utf8(self):
        for wrong in NOT_UTF8:
            for octets in (wrong, [97] + wrong, wrong + [97], [97, 32] + wrong + [32, 97], [10] + wrong):
                with self.subTest(octets=octets):
                    self.assertEqual(hyphenate(octets, [97]), [-24])
                    self.assertEqual(hyphenate([], octets), [-24])
                    self.assertEqual(justify(10, octets), [-24])
                self.check([-24], 10, octets, [97])
                self.check([-24], 10, [], octets)

    def test_at_the_end_of_a_long_list(self):
        octets = [97] * 599 + [0xC3]
        self.assertEqual(hyphenate(octets, []), [-24])
        self.assertEqual(hyphenate([], octets), [-24])
        self.assertEqual(justify(10, octets), [-24])
        self.check([-24], 10, octets, [])
        self.check([-24], 10, [], octets)

    def test_all_pairs_of_bytes(self):
        for octets in itertools.product(range(256), repeat=2):
            self.check_like_python(list(octets))

    def test_all_kinds_of_longer_sequences(self):
        edges = (0x00, 0x7F, 0x80, 0x8F, 0x90, 0x9F, 0xA0, 0xBF, 0xC0, 0xFF)
        for lead in range(0xC0, 0x100):
            for others in itertools.product(edges, repeat=2):
                self.check_like_python([lead] + list(others))
        for lead in range(0xEF, 0xFA):
            for others in itertools.product(edges, repeat=3):
                self.check_like_python([lead] + list(others))

    def check_like_python(self, octets):
        try:
            bytes(octets).decode("utf-8")
            valid = True
        except UnicodeDecodeError:
            valid = False
        self.assertEqual(break_text(10, [], octets) != [-24], valid, octets)
        self.assertEqual(justify(10, octets), [len(octets)] + octets if valid else [-24], octets)

    def test_patterns_that_are_not_patterns(self):
        for wrong in NOT_PATTERNS:
            for patterns in (wrong, f"a1b {wrong}", f"{wrong} a1b", f"\n{wrong}\t"):
                octets = reference.octets(patterns)
                with self.subTest(patterns=patterns):
                    self.assertEqual(hyphenate(octets, [97]), [-21])
                self.check([-21], 10, octets, [97])

    def test_each_character_of_patterns(self):
        for code in range(128):
            letter = chr(code)
            if letter.islower() or letter in ". \t\n\r" or letter.isdigit():
                self.check_no_words(10, f"a{letter}b")
            else:
                octets = reference.octets(f"a{letter}b")
                self.assertEqual(hyphenate(octets, []), [-21])
                self.check([-21], 10, octets, [])

    def test_patterns(self):
        for patterns in ("", " ", "a", ".", "..", "1.", ".1", "1.2.3", "0a0", "1a2b3c4", ".a.b.", "a " * 300,
                         "a1" * 300, "a1 1a", "a1\t1a\r\n9."):
            self.check_no_words(10, patterns)

    def test_the_patterns_are_checked_without_need_of_them(self):
        self.assertEqual(hyphenate([65], []), [-21])
        self.check([-21], 10, [65], [])
        self.check([-21], 10, [65], [32])

    def test_the_patterns_are_checked_ahead_of_the_text(self):
        self.assertEqual(hyphenate([65], [0xFF]), [-21])
        self.check([-21], 10, [65], [0xFF])
        self.assertEqual(hyphenate([0xFF], [0xFF]), [-24])
        self.check([-24], 10, [0xFF], [0xFF])

    def test_patterns_must_be_utf8_first(self):
        self.assertEqual(hyphenate([65, 32, 0xFF], [97]), [-24])
        self.assertEqual(hyphenate([49, 49, 32, 0x80], [97]), [-24])
        self.check([-24], 10, [65, 32, 0xFF], [97])
        self.check([-24], 10, [49, 49, 32, 0x80], [97])
        self.check([-24], 10, [0xFF, 32, 65], [97])

    def test_the_counts_are_checked_last(self):
        for counts in ([], [0], [2], [4294967295], [0] * 20, [1] * 20):
            self.assertEqual(cost_of(10, [], [97], list(counts)), [-33])
            self.assertEqual(cost_of(9, [], [97], list(counts)), [-22])
            self.assertEqual(cost_of(10, [65], [97], list(counts)), [-21])
            self.assertEqual(cost_of(10, [0xFF], [97], list(counts)), [-24])
            self.assertEqual(cost_of(10, [], [97, 0xFF], list(counts)), [-24])
            self.assertEqual(cost_of(10, [65], [0xFF], list(counts)), [-21])
            self.assertEqual(cost_of(81, [0xFF], [0xFF], list(counts)), [-22])


if __name__ == "__main__":
    unittest.main()
