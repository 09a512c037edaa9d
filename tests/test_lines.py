"""[3.3] Code as lines of text, written and read; BadLine."""

import copy
import itertools
import re
import unittest

from netsieve.errors import BadLine
from netsieve.lines import read_code, written
from netsieve.looking import is_let_in

OPS = ("plus", "minus", "times", "over", "rest", "and", "or", "xor", "left", "right")
TESTS = ("equal", "above", "least", "any")
NUMBERS = (0, 1, 9, 10, 100, 2147483648, 4294967295)
# A step of each kind, and its line.
WRITTEN = (
    (("load", 1, "at", 0), "load 1 at 0\n"),
    (("load", 2, "at", 17), "load 2 at 17\n"),
    (("load", 4, "x", 4294967295), "load 4 x 4294967295\n"),
    (("len",), "len\n"),
    (("set", 0), "set 0\n"),
    (("setx", 4294967295), "setx 4294967295\n"),
    (("tax",), "tax\n"),
    (("txa",), "txa\n"),
    (("keep", 0), "keep 0\n"),
    (("fetch", 7), "fetch 7\n"),
    (("do", "over", 1), "do over 1\n"),
    (("do", "left", 31), "do left 31\n"),
    (("do", "xor", 4294967295), "do xor 4294967295\n"),
    (("dox", "rest"), "dox rest\n"),
    (("jump", 2000), "jump 2000\n"),
    (("if", "equal", 10, 0, 2000), "if equal 10 0 2000\n"),
    (("ifx", "any", 2000, 0), "ifx any 2000 0\n"),
    (("tell", 1), "tell 1\n"),
    (("tella",), "tella\n"),
)
# Lines, without their ends, that write no step.
WRONG = (
    "", " ", "  ", "nothing", "Len", "LEN", "tellx", "lentella", "0", "7", "~", "-", "'len'", "('len',)", "len,",
    " len", "len ", " len ", "  len", "set  5", " set 5", "set 5 ", "set 5  ", "load 1  at 0", "load  1 at 0",
    "set", "set 5 5", "len 0", "len len", "tax 1", "txa 0", "tella 0", "tell", "tell 1 1", "jump", "jump 1 1",
    "load 1 at", "load 1", "load", "load 1 at 0 0", "keep", "keep 1 1", "fetch", "fetch 0 0", "do plus", "do 1",
    "do", "do plus 1 1", "dox", "dox plus 1", "dox plus plus", "if equal 1 1", "if equal 1 1 1 1", "if equal",
    "ifx equal 1", "ifx equal 1 1 1", "setx", "setx 1 2",
    "set 05", "set 00", "set 005", "set 0000000000", "set 00000000000", "load 01 at 0", "load 1 at 00", "keep 07",
    "jump 01", "if equal 01 0 0", "if equal 1 00 0", "if equal 1 0 00", "ifx equal 00 0", "do plus 01", "tell 01",
    "set +5", "set -5", "set -0", "set +0", "set 5.0", "set 5e0", "set 0x5", "set 1_0", "set 1,000", "set five",
    "set None", "set True", "tell False", "set '5'", "jump -1", "jump +1", "if equal -1 0 0", "keep -1", "set ",
    "set 4294967296", "setx 4294967296", "tell 9999999999", "load 1 at 4294967296", "do plus 4294967296",
    "if equal 4294967296 0 0", "set 10000000000", "set " + "9" * 60, "set " + "9" * 5000, "set " + "0" * 5000,
    "9" * 5000, "a" * 5000,
    "jump 2001", "if equal 0 2001 0", "if equal 0 0 2001", "ifx equal 2001 0", "ifx equal 0 2001", "jump 4294967295",
    "keep 8", "fetch 8", "keep 4294967295", "load 0 at 0", "load 3 at 0", "load 5 at 0", "load 8 at 0", "load x at 0",
    "load 1 y 0", "load 1 0 at", "load at 1 0", "load 1 at x", "load 1 AT 0", "load 1 at at",
    "do over 0", "do rest 0", "do left 32", "do right 32", "do left 4294967295", "do equal 1", "do + 1", "do 1 plus",
    "dox equal", "dox 1", "dox Plus", "if plus 1 0 0", "if same 1 0 0", "if 1 equal 0 0", "ifx 1 0 0", "ifx below 0 0",
    "if equal equal 0 0", "len;", "set 5;set 6", "set 5 len", "jump0", "set5", "load1at0",
)


class Written(unittest.TestCase):
    def test_each_kind(self):
        for step, line in WRITTEN:
            with self.subTest(line):
                self.assertEqual(written([step]), line)

    def test_no_steps(self):
        self.assertEqual(written([]), "")

    def test_several(self):
        self.assertEqual(written([("len",), ("if", "above", 20, 0, 1), ("tell", 1), ("tell", 0)]),
                         "len\nif above 20 0 1\ntell 1\ntell 0\n")
        self.assertEqual(written([step for step, line in WRITTEN]), "".join(line for step, line in WRITTEN))

    def test_more_than_2000(self):
        self.assertEqual(written([("len",)] * 2500), "len\n" * 2500)

    def test_the_list_stays(self):
        code = [step for step, line in WRITTEN]
        before = copy.deepcopy(code)
        written(code)
        self.assertEqual(code, before)


class ReadBack(unittest.TestCase):
    def assert_read(self, text, expected):
        with self.subTest(text):
            code = read_code(text)
            self.assertEqual(code, expected)
            self.assertIs(type(code), list)
            for step in code:
                self.assertIs(type(step), tuple)

    def test_each_kind(self):
        for step, line in WRITTEN:
            self.assert_read(line, [step])

    def test_the_empty_text(self):
        self.assert_read("", [])

    def test_several(self):
        self.assert_read("len\nif above 20 0 1\ntell 1\ntell 0\n",
                         [("len",), ("if", "above", 20, 0, 1), ("tell", 1), ("tell", 0)])
        self.assert_read("".join(line for step, line in WRITTEN), [step for step, line in WRITTEN])
        self.assert_read("len\n" * 3, [("len",)] * 3)

    def test_all_the_steps_there_are(self):
        code = [("load", size, base, k) for size in (1, 2, 4) for base in ("at", "x") for k in NUMBERS]
        code += [(word, k) for word in ("set", "setx", "tell") for k in NUMBERS]
        code += [(word, slot) for word in ("keep", "fetch") for slot in range(8)]
        code += [("do", op, k) for op in OPS for k in (1, 9, 31)] + [("do", op, 0) for op in OPS if op not in OPS[3:5]]
        code += [("do", op, 4294967295) for op in OPS[:8]] + [("dox", op) for op in OPS]
        distances = (0, 1, 10, 1999, 2000)
        code += [("jump", n) for n in distances]
        for test, one, other in itertools.product(TESTS, distances, distances):
            code += [("if", test, k, one, other) for k in NUMBERS] + [("ifx", test, one, other)]
        self.assertEqual(read_code(written(code)), code)
        for step in code:
            self.assertEqual(read_code(written([step])), [step])

    def test_numbers_are_whole_numbers(self):
        for number in read_code("if equal 10 0 2000\n")[0][2:]:
            self.assertIs(type(number), int)

    def test_what_is_not_let_in(self):
        for code in (
            [("fetch", 0)],
            [("len",)],
            [("jump", 2000)],
            [("tell", 1), ("jump", 7)],
            [("if", "any", 0, 2000, 2000), ("fetch", 7)],
            [("len",)] * 2001 + [("tell", 1)],
        ):
            self.assertFalse(is_let_in(code))
            self.assertEqual(read_code(written(code)), code)

    def test_each_time_a_new_list(self):
        one, other = read_code("len\ntella\n"), read_code("len\ntella\n")
        self.assertEqual(one, other)
        self.assertIsNot(one, other)
        one.clear()
        self.assertEqual(read_code("len\ntella\n"), other)


class Wrong(unittest.TestCase):
    def assert_bad(self, text, line):
        with self.subTest(text):
            with self.assertRaises(BadLine) as caught:
                read_code(text)
            self.assertEqual(caught.exception.line, line)
            self.assertIs(type(caught.exception.line), int)

    def test_lines_that_write_no_step(self):
        for line in WRONG:
            self.assert_bad(line + "\n", 1)
            self.assert_bad(line + "\nlen\n", 1)
            self.assert_bad("len\n" + line + "\n", 2)
            self.assert_bad("len\n" + line + "\nlen\n", 2)
            self.assert_bad("len\n" * 20 + line + "\n" + "len\n" * 3, 21)

    def test_wrong_lines_without_their_ends(self):
        for line in WRONG:
            if line != "":
                self.assert_bad(line, 1)
                self.assert_bad("len\n" + line, 2)

    def test_right_lines_without_their_ends(self):
        for step, line in WRITTEN:
            self.assert_bad(line[:-1], 1)
            self.assert_bad("len\ntella\n" + line[:-1], 3)

    def test_empty_lines(self):
        self.assert_bad("\n", 1)
        self.assert_bad("\n\n", 1)
        self.assert_bad("\nlen\n", 1)
        self.assert_bad("len\n\n", 2)
        self.assert_bad("len\n\nlen\n", 2)
        self.assert_bad("len\n \nlen\n", 2)

    def test_the_first_of_several(self):
        self.assert_bad("len\nset 05\nset\ntella", 2)
        self.assert_bad("set\nlen", 1)
        self.assert_bad("len\nset", 2)
        self.assert_bad("len\ntella\njump 2001\n\nlen", 3)
        self.assert_bad("nothing\nnothing\nnothing\n", 1)

    def test_one_sign_more_or_less_or_another(self):
        signs = " \n0129~-+ealx"
        right = {line for step, line in WRITTEN}
        for line in sorted(right):
            for place in range(len(line)):
                for sign in signs:
                    self.assert_as_expected(line[:place] + sign + line[place:])
                    self.assert_as_expected(line[:place] + sign + line[place + 1:])
                self.assert_as_expected(line[:place] + line[place + 1:])

    def assert_as_expected(self, text):
        expected = expected_line(text)
        if expected is None:
            self.assertEqual(written(read_code(text)), text)
        else:
            self.assert_bad(text, expected)


# Written anew from the words of the document, as a pattern.
NUMBER = "(0|[1-9][0-9]{0,9})"
STEP = re.compile(
    f"load [124] (at|x) {NUMBER}|len|setx? {NUMBER}|tax|txa|(keep|fetch) [0-7]|"
    f"do (plus|minus|times|and|or|xor) {NUMBER}|do (over|rest) [1-9][0-9]{{0,9}}|"
    "do (left|right) ([0-9]|[12][0-9]|3[01])|dox (plus|minus|times|over|rest|and|or|xor|left|right)|"
    f"jump {NUMBER}|if (equal|above|least|any) {NUMBER} {NUMBER} {NUMBER}|"
    f"ifx (equal|above|least|any) {NUMBER} {NUMBER}|"
    f"tell {NUMBER}|tella")


def writes_a_step(line):
    if not STEP.fullmatch(line):
        return False
    numbers = [int(piece) for piece in line.split(" ") if piece.isdigit()]
    distances = {"jump": 1, "if": 2, "ifx": 2}.get(line.split(" ")[0], 0)
    return all(k <= 4294967295 for k in numbers) and all(n <= 2000 for n in numbers[len(numbers) - distances:])


def expected_line(text):
    lines = re.findall("[^\n]*\n|[^\n]+", text)
    for number, line in enumerate(lines, start=1):
        if not line.endswith("\n") or not writes_a_step(line[:-1]):
            return number
    return None


if __name__ == "__main__":
    unittest.main()
