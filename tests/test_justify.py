"""Operation 6: justify."""

import itertools
import random
import unittest

import reference
from plainlayout.typesetting import justify


class JustifyTest(unittest.TestCase):
    def check(self, width, text, wanted):
        answer = justify(width, reference.octets(text))
        self.assertEqual(answer, reference.as_answer([wanted]), (width, text))
        self.assertIs(type(answer), list)
        for number in answer:
            self.assertIs(type(number), int)

    def check_same(self, width, text):
        self.check(width, text, text)

    def test_example(self):
        self.check(12, "a b  cc", "a    b    cc")

    def test_the_form_of_the_answer(self):
        self.assertEqual(justify(10, [97, 32, 98]), [10, 97] + [32] * 8 + [98])
        self.assertEqual(justify(10, [97, 10, 98]), [3, 97, 10, 98])

    def test_an_empty_text(self):
        self.assertEqual(justify(10, []), [0])
        self.assertEqual(justify(80, []), [0])

    def test_a_line_of_one_word(self):
        for text in ("a", " a", "a ", "  a  ", "\ta\t", "\ra\r", "aaaaaaaaaa", "aaaaaaaaaaa", " aaaaaaaaaaaaa ", "a-b",
                     "\u00a0", "a\u00a0b", "a" * 600, " " * 300 + "a" + " " * 299):
            self.check_same(10, text)
            self.check_same(80, text)

    def test_a_line_without_words(self):
        for text in (" ", "  ", "\t", "\r", " \t\r ", " " * 10, " " * 11, " " * 600):
            self.check_same(10, text)
            self.check_same(80, text)

    def test_all_gaps_get_the_same(self):
        self.check(10, "a b", "a        b")
        self.check(11, "a b c", "a    b    c")
        self.check(10, "a b c d", "a  b  c  d")

    def test_the_first_gaps_get_one_space_more(self):
        self.check(10, "a b c", "a    b   c")
        self.check(11, "a b c d", "a   b  c  d")
        self.check(12, "a b c d", "a   b   c  d")
        self.check(13, "a b c d", "a   b   c   d")
        self.check(10, "aa bb cc dd", "aa bb cc dd")
        self.check(12, "aa bb cc dd", "aa  bb cc dd")
        self.check(13, "aa bb cc dd", "aa  bb  cc dd")
        self.check(14, "aa bb cc dd", "aa  bb  cc  dd")

    def test_the_spaces_do_not_depend_on_those_before(self):
        self.check(12, "a     b c", "a     b    c")
        self.check(12, "a b     c", "a     b    c")
        self.check(12, "a     b    c", "a     b    c")

    def test_white_space_at_both_ends_goes(self):
        self.check(10, " a b", "a        b")
        self.check(10, "a b ", "a        b")
        self.check(10, "   a b   ", "a        b")
        self.check(10, "\ta b\r", "a        b")

    def test_words_that_have_just_the_width(self):
        self.check_same(10, "aaaa bbbbb")
        self.check_same(10, "aa bbb ccc")
        self.check_same(80, "a" * 40 + " " + "b" * 39)
        self.check(10, " aaaa bbbbb", "aaaa bbbbb")
        self.check(10, "aaaa   bbbbb", "aaaa bbbbb")
        self.check(10, "aaaa\tbbbbb", "aaaa bbbbb")

    def test_words_that_have_one_more_than_the_width(self):
        for text in ("aaaaa bbbbb", "aaa bbb ccc", " aaaaa bbbbb", "aaaaa   bbbbb ", "aaaaa\tbbbbb\r", "a b c d e f"):
            self.check_same(10, text)
        self.check_same(80, "a" * 40 + " " + "b" * 40)

    def test_words_that_are_longer_than_the_width(self):
        for text in ("aaaaaaaaaaa b", "a bbbbbbbbbbbbbbb  c", "\ta " * 200, "a " * 300):
            self.check_same(10, text)

    def test_the_gaps_count(self):
        # Without gaps these words have just the width, or less than it.
        self.check_same(10, "aaaa bbb ccc")
        self.check_same(10, "aaa bbb ccc")
        self.check_same(10, "a b c d e f g h i j")

    def test_a_line_longer_than_the_width_whose_words_fit(self):
        self.check(10, "a              b", "a        b")
        self.check(10, "aaaa          bbbbb", "aaaa bbbbb")
        self.check(10, "a" + " " * 598 + "b", "a        b")
        self.check(10, " " * 300 + "a b" + " " * 297, "a        b")

    def test_tabs_and_carriage_returns_are_white_space(self):
        for space in ("\t", "\r", "\t\t", "\r\r", " \t", "\r ", "\t\r \t"):
            self.check(10, f"a{space}b", "a        b")
            self.check(10, f"{space}a{space}b{space}", "a        b")

    def test_other_spaces_are_characters_of_words(self):
        for letter in ("\u00a0", "\u000b", "\u000c", "\u0085", "\u2003", "\u2028", "\u3000", "\u001c", "\u0000"):
            self.check_same(10, f"a{letter}b")
            self.check(10, f"a{letter}b c", f"a{letter}b      c")

    def test_each_line_for_itself(self):
        self.check(10, "a b\nc d", "a        b\nc        d")
        self.check(10, "a b\nc\naaaaa bbbbb\naaa bb c", "a        b\nc\naaaaa bbbbb\naaa  bb  c")
        self.check(10, "a\nb", "a\nb")
        self.check(10, " a\nb ", " a\nb ")

    def test_the_last_line_too(self):
        self.check(10, "aaaa bbbbb\nc d", "aaaa bbbbb\nc        d")

    def test_line_feeds_stay(self):
        for text in ("\n", "\n\n", "\n" * 600, "a\n", "\na", "\n\na\n\n", "a\n\n\nb", " \n\t\n"):
            self.check_same(10, text)
        self.check(10, "\n\na b\n\n\nc d\n", "\n\na        b\n\n\nc        d\n")

    def test_carriage_returns_ahead_of_line_feeds(self):
        self.check(10, "a b\r\nc\r\n", "a        b\nc\r\n")

    def test_lengths_are_numbers_of_code_points(self):
        for letter in ("\u00e9", "\u07ff", "\u0800", "\u20ac", "\uffff", "\U00010000", "\U0001f600", "\U0010ffff"):
            self.check(10, f"{letter} {letter * 2}", f"{letter}       {letter * 2}")
            self.check(10, f"{letter * 4}  {letter * 5}", f"{letter * 4} {letter * 5}")
            self.check_same(10, f"{letter * 5}  {letter * 5}")
        self.check(10, "e\u0301 a", "e\u0301       a")

    def test_the_greatest_width(self):
        self.check(80, "a b", "a" + " " * 78 + "b")
        self.check(80, "a " * 40, "a  a" + " a" * 38)
        self.check_same(80, "a " * 41)

    def test_an_answer_longer_than_what_is_handed_in(self):
        self.check(80, "\n".join(["a b"] * 150), "\n".join(["a" + " " * 78 + "b"] * 150))

    def test_short_texts_against_the_reference(self):
        for size in range(7):
            for letters in itertools.product("a \n\t" if size < 6 else "a \n", repeat=size):
                text = "".join(letters)
                self.assertEqual(justify(10, reference.octets(text)), reference.justify_answer(10, text))

    def test_long_texts_against_the_reference(self):
        chance = random.Random(13)
        for _ in range(300):
            letters = chance.choice(["ab  \n\t\r", "abcdefgh ", "abcdefgh  \u20ac\n", "a \n"])
            text = "".join(chance.choice(letters) for _ in range(chance.randint(0, 600)))
            text = text.encode("utf-8")[:600].decode("utf-8", "ignore")
            width = chance.choice([10, 80, chance.randint(10, 80)])
            self.assertEqual(justify(width, reference.octets(text)), reference.justify_answer(width, text))

    def test_a_justified_line_has_the_width_or_is_unchanged(self):
        chance = random.Random(14)
        changed = 0
        for _ in range(300):
            width = chance.randint(10, 80)
            text = "".join(chance.choice("aaabb  \n\t\u20ac") for _ in range(200))
            found = bytes(justify(width, reference.octets(text))[1:]).decode("utf-8")
            for old, new in zip(text.split("\n"), found.split("\n"), strict=True):
                self.assertEqual(reference.words(old), reference.words(new))
                self.assertTrue(new == old or len(new) == width)
                changed += new != old
        self.assertGreater(changed, 1000)


if __name__ == "__main__":
    unittest.main()
