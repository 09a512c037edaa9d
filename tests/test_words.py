"""[2.1] The words of a filter."""

import itertools
import unittest

from netsieve.errors import BadFilter
from netsieve.filters import read
from netsieve.words import words_of

TOP = 4294967295
NAMES = ("and", "or", "not", "so", "len", "byte", "half", "word", "rest", "true", "false")
SIGNS = ("<<", ">>", "<=", ">=", "!=", "<", ">", "=", "+", "-", "*", "/", "&", "|", "^", "(", ")", "[", "]")
NO_SIGNS = ("!", "\"", "#", "$", "%", "'", ",", ".", ":", ";", "?", "@", "\\", "_", "`", "{", "}", "~")


class Words(unittest.TestCase):
    def assert_words(self, text, words):
        with self.subTest(repr(text)):
            self.assertEqual(words_of(text), words)

    def test_no_words(self):
        for text in ("", " ", "     "):
            self.assert_words(text, [])

    def test_every_word_alone(self):
        for word in NAMES + SIGNS:
            self.assert_words(word, [word])
            self.assert_words("  " + word + "   ", [word])

    def test_every_two_words_with_a_blank_between(self):
        for one, other in itertools.product(NAMES + SIGNS, repeat=2):
            self.assert_words(one + " " + other, [one, other])
            self.assert_words(" " + one + "   " + other + " ", [one, other])

    def test_words_and_signs_without_blanks(self):
        for name, sign in itertools.product(NAMES, SIGNS):
            self.assert_words(name + sign, [name, sign])
            self.assert_words(sign + name, [sign, name])
            self.assert_words(sign + "7" + sign, [sign, 7, sign])
            self.assert_words("7" + name + "8", [7, name, 8])

    def test_the_longer_sign_where_two_would_do(self):
        self.assert_words("1<<2", [1, "<<", 2])
        self.assert_words("1<=2", [1, "<=", 2])
        self.assert_words("1>=2", [1, ">=", 2])
        self.assert_words("1>>2", [1, ">>", 2])
        self.assert_words("1!=2", [1, "!=", 2])
        self.assert_words("<<<", ["<<", "<"])
        self.assert_words("<<=", ["<<", "="])
        self.assert_words("<<<=", ["<<", "<="])
        self.assert_words(">>>", [">>", ">"])
        self.assert_words(">>=", [">>", "="])
        self.assert_words("<==", ["<=", "="])
        self.assert_words("==", ["=", "="])
        self.assert_words("=<", ["=", "<"])
        self.assert_words("=>", ["=", ">"])
        self.assert_words("<>", ["<", ">"])
        self.assert_words("><", [">", "<"])
        self.assert_words("!==", ["!=", "="])
        self.assert_words("< <", ["<", "<"])
        self.assert_words("< =", ["<", "="])
        self.assert_words("&&", ["&", "&"])
        self.assert_words("||", ["|", "|"])

    def test_numbers_of_1_to_10_figures(self):
        for count in range(1, 11):
            self.assert_words("1" * count, [int("1" * count)])
            self.assert_words("0" * count, [0])
            self.assert_words("0" * (count - 1) + "7", [7])
        self.assert_words("0123456789", [123456789])
        self.assert_words("12 34", [12, 34])

    def test_the_greatest_number(self):
        self.assert_words("4294967295", [TOP])
        self.assert_words("4294967294", [TOP - 1])
        self.assert_words("4294967296", [None])
        self.assert_words("9999999999", [None])

    def test_more_than_10_figures(self):
        for text in ("00000000000", "00000000001", "12345678901", "04294967295", "1" * 20, "1" * 290, "0" * 5000):
            self.assert_words(text, [None])
            self.assert_words("1 " + text + " 2", [1, None, 2])

    def test_signs_that_begin_no_word(self):
        for sign in NO_SIGNS:
            self.assert_words(sign, [None])
            self.assert_words("1" + sign + " 2", [1, None, 2])
        self.assert_words("! =", [None, "="])
        self.assert_words("!<", [None, "<"])

    def test_letters_that_are_no_word(self):
        for text in ("a", "x", "an", "ands", "AND", "And", "True", "LEN", "bytes", "nottrue", "truefalse", "lenlen",
                     "andor", "so" * 100, "Z"):
            self.assert_words(text, [None])
            self.assert_words("1" + text + "2", [1, None, 2])

    def test_letters_and_figures_are_not_one_word(self):
        self.assert_words("len1", ["len", 1])
        self.assert_words("1len", [1, "len"])
        self.assert_words("x1", [None, 1])
        self.assert_words("0x1", [0, None, 1])
        self.assert_words("true_", ["true", None])

    def test_each_answer_is_a_new_list(self):
        words_of("1 2").append(3)
        self.assertEqual(words_of("1 2"), [1, 2])


# The same through what is told by reading.
class WordsOfAFilter(unittest.TestCase):
    def assert_tree(self, text, tree):
        with self.subTest(repr(text)):
            self.assertEqual(read(text), tree)

    def test_numbers(self):
        for figures, number in (("0", 0), ("00", 0), ("0000000000", 0), ("7", 7), ("0000000007", 7),
                                ("4294967295", TOP), ("1234567890", 1234567890), ("0429496729", 429496729)):
            self.assert_tree(figures + "=len", ("same", ("number", number), ("len",)))

    def test_numbers_too_great_or_too_long(self):
        for figures in ("4294967296", "9999999999", "00000000000", "00000000001", "04294967295"):
            for text, word in ((figures + "=len", 1), ("len=" + figures, 3), ("len=1+" + figures + "and", 5)):
                with self.subTest(text):
                    with self.assertRaises(BadFilter) as taken:
                        read(text)
                    self.assertEqual(taken.exception.word, word)

    def test_blanks(self):
        tree = ("both", ("same", ("load", 1, ("number", 0)), ("number", 69)), ("truth", True))
        for text in ("byte[0]=69and true", "  byte [ 0 ] = 69 and true  ", "byte[ 0]= 69and   true",
                     " byte [0 ] =69 and  true"):
            self.assert_tree(text, tree)

    def test_signs_without_blanks(self):
        one, two, three = ("number", 1), ("number", 2), ("number", 3)
        self.assert_tree("1<<2<=3", ("most", ("left", one, two), three))
        self.assert_tree("1>>2>=3", ("least", ("right", one, two), three))
        self.assert_tree("1<2", ("below", one, two))
        self.assert_tree("1!=2<<3", ("unlike", one, ("left", two, three)))
        self.assert_tree("1rest2=3", ("same", ("rest", one, two), three))
        self.assert_tree("so(1=2)or 1<3", ("either", ("same", one, two), ("below", one, three)))


if __name__ == "__main__":
    unittest.main()
