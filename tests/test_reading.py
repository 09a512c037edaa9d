"""[2.2] What a filter is and how it is joined; [2.4] its tree; [2.3] the wrong word of a text that is no filter."""

import random
import unittest

from netsieve.errors import BadFilter
from netsieve.filters import read

TRUE, FALSE, LEN = ("truth", True), ("truth", False), ("len",)
SUM_OPS = {"+": "plus", "-": "minus", "|": "or", "^": "xor"}
PRODUCT_OPS = {"*": "times", "/": "over", "rest": "rest", "&": "and", "<<": "left", ">>": "right"}
OPS = {**SUM_OPS, **PRODUCT_OPS}
COMPARISONS = {"=": "same", "!=": "unlike", "<": "below", ">": "above", "<=": "most", ">=": "least"}
SIZES = {"byte": 1, "half": 2, "word": 4}
# What lies ahead of and behind what it holds, of each kind that may lie within another.
TEST_KINDS = (("not ", ""), ("so ( ", " )"))
SUM_KINDS = (("byte [ ", " ]"), ("half [ ", " ]"), ("word [ ", " ]"), ("( ", " )"))


def num(k):
    return ("number", k)


def wrong_word(text):
    try:
        read(text)
    except BadFilter as error:
        return error.word
    return None


class Trees(unittest.TestCase):
    def assert_tree(self, text, tree):
        with self.subTest(text):
            told = read(text)
            self.assertEqual(told, tree)
            self.assertEqual(repr(told), repr(tree))

    # Of a sum, read as one side of a comparison.
    def assert_sum(self, text, tree):
        self.assert_tree(text + " = 0", ("same", tree, num(0)))
        self.assert_tree("0 = " + text, ("same", num(0), tree))

    def test_truths(self):
        self.assert_tree("true", TRUE)
        self.assert_tree("false", FALSE)

    def test_plain_numbers(self):
        self.assert_sum("5", num(5))
        self.assert_sum("len", LEN)
        for name, size in SIZES.items():
            self.assert_sum(f"{name} [ 5 ]", ("load", size, num(5)))
            self.assert_sum(f"{name} [ len - 1 ]", ("load", size, ("minus", LEN, num(1))))
            self.assert_sum(f"{name} [ byte [ 2 ] ]", ("load", size, ("load", 1, num(2))))

    def test_each_comparison(self):
        for sign, test in COMPARISONS.items():
            self.assert_tree(f"1 {sign} len", (test, num(1), LEN))
            self.assert_tree(f"1 + 2 {sign} 3 * 4", (test, ("plus", num(1), num(2)), ("times", num(3), num(4))))

    def test_each_op(self):
        for sign, op in OPS.items():
            self.assert_sum(f"1 {sign} 2", (op, num(1), num(2)))

    def test_ops_are_joined_from_the_left(self):
        for first, second in [(a, b) for a in SUM_OPS for b in SUM_OPS] + [(a, b) for a in PRODUCT_OPS
                                                                          for b in PRODUCT_OPS]:
            self.assert_sum(f"1 {first} 2 {second} 3", (OPS[second], (OPS[first], num(1), num(2)), num(3)))
            self.assert_sum(f"1 {first} ( 2 {second} 3 )", (OPS[first], num(1), (OPS[second], num(2), num(3))))

    def test_products_join_more_tightly(self):
        for loose in SUM_OPS:
            for tight in PRODUCT_OPS:
                self.assert_sum(f"1 {loose} 2 {tight} 3", (OPS[loose], num(1), (OPS[tight], num(2), num(3))))
                self.assert_sum(f"1 {tight} 2 {loose} 3", (OPS[loose], (OPS[tight], num(1), num(2)), num(3)))
                self.assert_sum(f"( 1 {loose} 2 ) {tight} 3", (OPS[tight], (OPS[loose], num(1), num(2)), num(3)))
                self.assert_sum(f"1 {tight} ( 2 {loose} 3 )", (OPS[tight], num(1), (OPS[loose], num(2), num(3))))

    def test_and_and_or_are_joined_from_the_left(self):
        self.assert_tree("true and false and true", ("both", ("both", TRUE, FALSE), TRUE))
        self.assert_tree("true or false or true", ("either", ("either", TRUE, FALSE), TRUE))

    def test_and_joins_more_tightly(self):
        self.assert_tree("true and false or true", ("either", ("both", TRUE, FALSE), TRUE))
        self.assert_tree("true or false and true", ("either", TRUE, ("both", FALSE, TRUE)))
        self.assert_tree("true or false and true or false", ("either", ("either", TRUE, ("both", FALSE, TRUE)), FALSE))
        self.assert_tree("true and false or true and false", ("either", ("both", TRUE, FALSE), ("both", TRUE, FALSE)))

    def test_so(self):
        self.assert_tree("so ( true )", TRUE)
        self.assert_tree("true and so ( false or true )", ("both", TRUE, ("either", FALSE, TRUE)))
        self.assert_tree("so ( true or false ) and true", ("both", ("either", TRUE, FALSE), TRUE))
        self.assert_tree("true and so ( false and true )", ("both", TRUE, ("both", FALSE, TRUE)))
        self.assert_tree("true or so ( false or true )", ("either", TRUE, ("either", FALSE, TRUE)))
        self.assert_tree("so ( so ( 1 = 2 ) )", ("same", num(1), num(2)))

    def test_not_holds_one_test(self):
        self.assert_tree("not true", ("not", TRUE))
        self.assert_tree("not not true", ("not", ("not", TRUE)))
        self.assert_tree("not true and false", ("both", ("not", TRUE), FALSE))
        self.assert_tree("not true or false", ("either", ("not", TRUE), FALSE))
        self.assert_tree("true and not false", ("both", TRUE, ("not", FALSE)))
        self.assert_tree("not 1 + 2 = 3", ("not", ("same", ("plus", num(1), num(2)), num(3))))
        self.assert_tree("not so ( true and false )", ("not", ("both", TRUE, FALSE)))
        self.assert_tree("not ( 1 ) = 2", ("not", ("same", num(1), num(2))))

    def test_brackets_leave_no_trace(self):
        self.assert_sum("( 1 )", num(1))
        self.assert_sum("( ( len ) )", LEN)
        self.assert_sum("( 1 + 2 )", ("plus", num(1), num(2)))
        self.assert_sum("( 1 ) + ( 2 )", ("plus", num(1), num(2)))
        self.assert_sum("byte [ ( 1 ) ]", ("load", 1, num(1)))

    def test_long_rows(self):
        rows = (("1" + "+1" * 120 + "=0", "plus", num(1)), ("1" + "*1" * 140 + "=0", "times", num(1)))
        for text, op, part in rows:
            tree = part
            for _ in range(text.count(text[1])):
                tree = (op, tree, part)
            self.assertEqual(read(text), ("same", tree, num(0)))
        for joint, head in (("and", "both"), ("or", "either")):
            tree = TRUE
            for _ in range(29):
                tree = (head, tree, TRUE)
            self.assertEqual(read("true" + f" {joint} true" * 29), tree)

    def test_texts_of_300_signs_and_somewhat_more(self):
        for count in (300, 301, 400):
            self.assertEqual(read("true".rjust(count)), TRUE)
            self.assertEqual(read("true".ljust(count)), TRUE)
            self.assertEqual(wrong_word("true".ljust(count) + "1"), 2)


# The text of a tree, with no more brackets than it takes; tightness is how tightly what stands round it joins.
def text_of(tree, tightness=0):
    head = tree[0]
    if head == "number":
        return str(tree[1])
    if head == "len":
        return "len"
    if head == "truth":
        return "true" if tree[1] else "false"
    if head == "load":
        name = {1: "byte", 2: "half", 4: "word"}[tree[1]]
        return f"{name}[{text_of(tree[2])}]"
    if head == "not":
        return "not " + text_of(tree[1], 2)
    own, sign = sign_of(head)
    joined = f"{text_of(tree[1], own)} {sign} {text_of(tree[2], own + 1)}"
    if own == 2:
        return f"{text_of(tree[1])} {sign} {text_of(tree[2])}"
    if own >= tightness:
        return joined
    return f"so ({joined})" if head in ("both", "either") else f"({joined})"


def sign_of(head):
    if head in ("both", "either"):
        return (1, "and") if head == "both" else (0, "or")
    for own, signs in ((2, COMPARISONS), (0, SUM_OPS), (1, PRODUCT_OPS)):
        for sign, name in signs.items():
            if name == head:
                return own, sign
    raise ValueError(head)


def some_number_tree(chance, size):
    if size <= 1:
        return chance.choice((num(chance.choice((0, 1, 7, 4294967295))), LEN))
    if chance.random() < 0.2:
        return ("load", chance.choice((1, 2, 4)), some_number_tree(chance, size - 1))
    first = chance.randrange(1, size)
    return (chance.choice(tuple(OPS.values())), some_number_tree(chance, first), some_number_tree(chance, size - first))


def some_truth_tree(chance, size):
    if size <= 1:
        return chance.choice((TRUE, FALSE))
    kind = chance.random()
    if kind < 0.15:
        return ("not", some_truth_tree(chance, size - 1))
    first = chance.randrange(1, size)
    if kind < 0.6:
        test = chance.choice(tuple(COMPARISONS.values()))
        return (test, some_number_tree(chance, first), some_number_tree(chance, size - first))
    return (chance.choice(("both", "either")), some_truth_tree(chance, first), some_truth_tree(chance, size - first))


class WrittenAndRead(unittest.TestCase):
    def test_trees_are_read_as_they_were_written(self):
        chance = random.Random(1)
        for _ in range(3000):
            tree = some_truth_tree(chance, chance.randrange(1, 12))
            text = text_of(tree)
            self.assertEqual(read(text), tree, text)


class WithinOneAnother(unittest.TestCase):
    # Kinds of tests outside, kinds of sums inside them; the innermost is a number where there are sums, else a truth.
    def nested(self, tests, sums):
        ahead = "".join(kind[0] for kind in tests) + "".join(kind[0] for kind in sums)
        behind_sum = "".join(kind[1] for kind in reversed(sums))
        behind = "".join(kind[1] for kind in reversed(tests))
        inner = "1" + behind_sum + " = 0" if sums else "true"
        return ahead + inner + behind

    # The number of the word with which the last of them begins.
    def begins(self, tests, sums):
        heads = [kind[0].split() for kind in list(tests) + list(sums)]
        return sum(len(head) for head in heads[:-1]) + 1

    def assert_edge(self, tests, sums):
        text = self.nested(tests, sums)
        if len(tests) + len(sums) <= 12:
            self.assertIsNone(wrong_word(text), text)
        else:
            self.assertEqual(wrong_word(text), self.begins(tests, sums), text)

    def test_each_kind(self):
        for count in range(14):
            for kind in TEST_KINDS:
                self.assert_edge([kind] * count, [])
            for kind in SUM_KINDS:
                self.assert_edge([], [kind] * count)

    def test_mixed(self):
        chance = random.Random(2)
        for count in (11, 12, 13):
            for _ in range(300):
                outside = chance.randrange(count + 1)
                tests = [chance.choice(TEST_KINDS) for _ in range(outside)]
                sums = [chance.choice(SUM_KINDS) for _ in range(count - outside)]
                self.assert_edge(tests, sums)

    def test_on_the_right_side_too(self):
        for kind in SUM_KINDS:
            inner = kind[0] * 12 + "1" + kind[1] * 12
            self.assertIsNone(wrong_word("1 = 2 + 3 * " + inner))
            deeper = kind[0] * 13 + "1" + kind[1] * 13
            words_of_one = len(kind[0].split())
            self.assertEqual(wrong_word("1 = 2 + 3 * " + deeper), 6 + 12 * words_of_one + 1)

    def test_side_by_side_they_are_not_within_one_another(self):
        self.assertIsNone(wrong_word(" and ".join(["not true"] * 20)))
        self.assertIsNone(wrong_word(" or ".join(["so(true)"] * 20)))
        self.assertIsNone(wrong_word("+".join(["(1)"] * 40) + "=0"))
        self.assertIsNone(wrong_word("+".join(["byte[1]"] * 30) + "=byte[2]"))
        twelve = "not " * 12 + "true"
        self.assertIsNone(wrong_word(" and ".join([twelve] * 4)))
        self.assertEqual(wrong_word(" and ".join([twelve] * 3 + ["not " + twelve])), 3 * 14 + 13)

    def test_a_not_ends_with_its_test(self):
        self.assertIsNone(wrong_word("so(" * 11 + "not true and not true" + ")" * 11))
        self.assertIsNone(wrong_word("so(" * 11 + "not 1 = 2 and (1) = 2" + ")" * 11))
        self.assertEqual(wrong_word("so(" * 11 + "not (1) = 2" + ")" * 11), 24)

    def test_what_has_ended_does_not_count(self):
        twelve = "(" * 12 + "1" + ")" * 12
        self.assertIsNone(wrong_word(f"{twelve}*{twelve}+{twelve}={twelve}"))
        self.assertIsNone(wrong_word("so(" * 12 + "true" + ")" * 12 + " and " + "not " * 12 + "true"))

    def test_of_the_thirteenth_its_first_word_is_wrong(self):
        nots = "not " * 12
        for text in ("not", "so", "byte", "half", "word", "(", "not true", "so(true)", "byte[0]=1", "(1)=1"):
            self.assertEqual(wrong_word(nots + text), 13, text)
        for text in ("byte", "(", "byte[0]", "(1)"):
            self.assertEqual(wrong_word(nots + "1=" + text), 15, text)
            self.assertEqual(wrong_word(nots + "1+" + text), 15, text)

    def test_ops_and_joints_do_not_count(self):
        self.assertIsNone(wrong_word("not " * 12 + "1+1*1-1<<2=3 and true or false"))


class WrongWords(unittest.TestCase):
    # text, the number of the wrong word
    ANSWERS = (
        ("", 1),
        ("    ", 1),
        ("and", 1), ("or true", 1), (")", 1), ("]", 1), ("[", 1), ("=", 1), ("= 1", 1), ("+ 1 = 2", 1), ("- 1 = 2", 1),
        ("rest", 1),
        ("true true", 2), ("true 1", 2), ("true false", 2), ("true not true", 2), ("true )", 2), ("true =", 2),
        ("true = true", 2), ("true + 1", 2), ("true so ( true )", 2), ("true len", 2),
        ("true and", 3), ("true or", 3), ("true and and", 3), ("true and or true", 3), ("true or )", 3),
        ("not", 2), ("not and", 2), ("not )", 2), ("not not", 3), ("not = 1", 2), ("not true true", 3),
        ("not true not", 3),
        ("1", 2), ("len", 2), ("1 2", 2), ("1 true", 2), ("1 and", 2), ("1 )", 2), ("1 ]", 2), ("1 [", 2), ("1 (", 2),
        ("1 not", 2), ("1 len", 2), ("1 or true", 2),
        ("1 +", 3), ("1 + +", 3), ("1 + - 2", 3), ("1 + =", 3), ("1 + true", 3), ("1 + not", 3), ("1 + )", 3),
        ("1 + 2", 4), ("1 * 2", 4), ("1 + 2 and", 4),
        ("1 =", 3), ("1 = =", 3), ("1 = and", 3), ("1 = true", 3), ("1 = not", 3), ("1 = so", 3), ("1 = )", 3),
        ("1 = - 1", 3),
        ("1 = 2 = 3", 4), ("1 < 2 < 3", 4), ("1 = 2 3", 4), ("1 = 2 )", 4), ("1 = 2 ]", 4), ("1 = 2 not", 4),
        ("1 = 2 true", 4),
        ("1 = 2 +", 5), ("1 = 2 and", 5), ("1 = 2 and 3", 6), ("1 = 2 or 3 and", 6), ("1 = 2 + 3 = 4", 6),
        ("so", 2), ("so true", 2), ("so 1", 2), ("so [", 2), ("so so", 2), ("so not true", 2),
        ("so (", 3), ("so ( )", 3), ("so ( and", 3), ("so ( true", 4), ("so ( true ]", 4), ("so ( true true", 4),
        ("so ( 1 )", 4), ("so ( 1 ) = 1", 4), ("so ( true ) )", 5), ("so ( true ) true", 5), ("so ( true ) = 1", 5),
        ("so ( true ) + 1", 5), ("so ( 1 = 2", 6), ("so ( 1 = 2 ]", 6), ("so ( true and )", 5),
        ("(", 2), ("( )", 2), ("( true )", 2), ("( not", 2), ("( so", 2), ("( 1", 3), ("( 1 = 2 )", 3), ("( 1 ]", 3),
        ("( 1 and", 3), ("( 1 )", 4), ("( 1 ) and", 4), ("( 1 ) )", 4), ("( 1 + )", 4), ("( 1 ) = 1 )", 6),
        ("byte", 2), ("byte 1", 2), ("byte (", 2), ("byte ( 1 )", 2), ("byte byte", 2), ("byte ]", 2),
        ("byte [", 3), ("byte [ ]", 3), ("byte [ true ]", 3), ("byte [ 1", 4), ("byte [ 1 )", 4), ("byte [ 1 = 1 ]", 4),
        ("byte [ 1 ]", 5), ("byte [ 1 ] ]", 5), ("byte [ 1 ] 1", 5), ("byte [ 1 ] [", 5), ("half [ 1 and", 4),
        ("word [ 1 ] = 2 and word", 9), ("len [", 2), ("len [ 1 ] = 1", 2),
        ("$", 1), ("!", 1), ("true ~", 2), ("true and $", 3), ("1 $ = 2", 2), ("1 ! = 2", 2), ("1 = 2 ;", 4),
        ("true.", 2), ("\"true\"", 1), ("_", 1), ("1 % 2 = 1", 2), ("{true}", 1),
        ("x", 1), ("True", 1), ("TRUE", 1), ("true AND true", 2), ("true And", 2), ("nottrue", 1), ("true andtrue", 2),
        ("truetrue", 1), ("not x", 2), ("bytes[0]=1", 1), ("byte[x]=1", 3), ("len = length", 3), ("soo(true)", 1),
        ("4294967296 = 1", 1), ("1 = 4294967296", 3), ("byte[4294967296] = 1", 3), ("1 = 00000000001", 3),
        ("12345678901 = 1", 1), ("true and 99999999999", 3), ("true 4294967296", 2), ("true 00000000000", 2),
        ("1 = 2 4294967296", 4),
        ("1 << = 2", 3), ("1<<=2", 3), ("1>>=2", 3), ("1==2", 3), ("1<>2", 3), ("1=>2", 3), ("1=<2", 3), ("1!==2", 3),
        ("1&&2", 3), ("1 || 2", 3), ("1**2=1", 3), ("1//2=1", 3),
    )

    def test_answers(self):
        for text, word in self.ANSWERS:
            with self.subTest(text):
                told = wrong_word(text)
                self.assertEqual(told, word)
                self.assertIs(type(told), int)

    def test_the_first_of_several(self):
        self.assertEqual(wrong_word("1 = = x 4294967296"), 3)
        self.assertEqual(wrong_word("true x y z"), 2)
        self.assertEqual(wrong_word("x 1 ="), 1)

    def test_deep_in_a_long_text(self):
        self.assertEqual(wrong_word("true" + " and true" * 30 + " and"), 63)
        self.assertEqual(wrong_word("true" + " and true" * 30 + " true"), 62)
        self.assertEqual(wrong_word("1" + "+1" * 100), 202)
        self.assertEqual(wrong_word("1" + "+1" * 100 + "=1)"), 204)


LOADS = tuple(SIZES)


# Which words a filter goes on with, written anew: one state and a stack of what is open, no call within a call.
class Automaton:
    def __init__(self):
        self.state = "test"
        self.stack = []

    def copied(self):
        other = Automaton()
        other.state, other.stack = self.state, list(self.stack)
        return other

    def within(self):
        return sum(1 for thing in self.stack if thing in ("not", "so", "[", "("))

    def test_ends(self):
        while self.stack and self.stack[-1] == "not":
            self.stack.pop()
        self.state = "behind test"

    def right_side_ends(self):
        if self.state == "behind number" and self.stack[-1] == "right":
            self.stack.pop()
            self.test_ends()

    def may_end(self):
        other = self.copied()
        other.right_side_ends()
        return other.state == "behind test" and other.stack == []

    # Whether a filter goes on with the word.
    def go_on(self, word):
        if self.state == "so" or self.state == "load":
            wanted, behind = ("(", "test") if self.state == "so" else ("[", "number")
            self.state = behind
            return word == wanted
        if self.state == "test" and word in ("true", "false"):
            self.test_ends()
            return True
        if self.state == "test" and word in ("not", "so"):
            self.stack.append(word)
            self.state = "test" if word == "not" else "so"
            return self.within() <= 12
        if self.state == "test":
            self.stack.append("left")
            self.state = "number"
        return self.go_on_with_number(word) if self.state == "number" else self.go_on_behind(word)

    def go_on_with_number(self, word):
        if word.isdigit() or word == "len":
            self.state = "behind number"
            return True
        if word not in LOADS + ("(",):
            return False
        self.stack.append("(" if word == "(" else "[")
        self.state = "number" if word == "(" else "load"
        return self.within() <= 12

    def go_on_behind(self, word):
        if self.state == "behind number":
            top = self.stack[-1]
            if word in OPS:
                self.state = "number"
                return True
            if word in COMPARISONS and top == "left":
                self.stack[-1], self.state = "right", "number"
                return True
            if (top, word) in (("(", ")"), ("[", "]")):
                self.stack.pop()
                return True
        self.right_side_ends()
        if self.state == "behind test" and word in ("and", "or"):
            self.state = "test"
            return True
        if self.state == "behind test" and word == ")" and self.stack[-1:] == ["so"]:
            self.stack.pop()
            self.test_ends()
            return True
        return False


def expected_word(words):
    automaton = Automaton()
    for number, word in enumerate(words, start=1):
        if not automaton.go_on(word):
            return number
    return None if automaton.may_end() else len(words) + 1


class AgainstTheAutomaton(unittest.TestCase):
    def check(self, words):
        expected = expected_word(words)
        if wrong_word(" ".join(words)) != expected:
            self.fail(f"{words}: {wrong_word(' '.join(words))}, not {expected}")
        return expected

    def test_every_short_row_of_words(self):
        alphabet = ("1", "len", "+", "rest", "=", "<=", "and", "or", "not", "so", "(", ")", "true", "byte", "[", "]")
        rows = [()]
        for count in range(5):
            rows = [row + (word,) for row in rows for word in alphabet]
            # A row that is wrong ahead of its end is wrong there whatever follows: that is tried once, not ever again.
            rows = [row for row in rows if self.check(row) in (None, count + 2)]

    def test_long_rows_of_words(self):
        alphabet = (["1", "len", "true", "false", "and", "or", "[", "[", ")", "]"] + ["not", "so", "(", "(", "("] * 2
                    + list(OPS) + list(COMPARISONS) + list(LOADS))
        chance = random.Random(3)
        for _ in range(1500):
            self.check(self.some_row(chance, alphabet))

    # Words with which a filter goes on, and now and then one more.
    def some_row(self, chance, alphabet):
        automaton, row = Automaton(), []
        for _ in range(chance.randrange(1, 120)):
            word = chance.choice(alphabet)
            after = automaton.copied()
            if after.go_on(word):
                automaton = after
                row.append(word)
            elif chance.random() < 0.01:
                return row + [word] + ["true"] * chance.randrange(2)
        return row


if __name__ == "__main__":
    unittest.main()
