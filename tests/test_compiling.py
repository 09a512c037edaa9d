"""[3.1] and [0.2] Code made of a filter: let in, telling 1 of the packets that the filter takes, else 0; TooDeep."""

import random
import unittest

from netsieve.compiling import compiled
from netsieve.errors import SieveError, TooDeep
from netsieve.filters import read, takes
from netsieve.looking import look
from netsieve.machine import run, steps_of

TOP = 4294967295
TRUE, FALSE, LEN = ("truth", True), ("truth", False), ("len",)
OPS = ("plus", "minus", "times", "over", "rest", "and", "or", "xor", "left", "right")
COMPARISONS = ("same", "unlike", "below", "above", "most", "least")
PACKETS = ([], [0], [1], [255], [1, 2], [0, 3], [2, 0, 1], [3, 0, 1, 2], [0, 0, 0, 1, 0, 255, 2],
           [1, 2, 3, 4, 255, 254, 253, 252], [byte % 256 for byte in range(7, 1407, 7)])
# Tests that let the filter as a whole not take the packet, of four bytes or less.
FAILING = ("byte[4] = 0", "half[3] = 0", "word[1] = 0", "1 / 0 = 0", "1 rest 0 = 0", "0 = 1 / (len - len)",
           "byte[4294967295] != 1", "0 * byte[9] = 0", "len >= byte[1 / 0]", "word[4294967293] = 0")


def num(k):
    return ("number", k)


def tuples_in(tree):
    return 1 + sum(tuples_in(part) for part in tree if isinstance(part, tuple))


# From the left, each part joined to what stands ahead of it.
def row(head, parts):
    tree = parts[0]
    for part in parts[1:]:
        tree = (head, tree, part)
    return tree


# Needs just so many: each second part lies within the second part of another.
def needing(need, leaf=num(1), op="minus"):
    tree = leaf
    for count in range(need):
        tree = (op, num(1000 * (count + 1)), tree)
    return tree


class Compiling(unittest.TestCase):
    def assert_compiled(self, thing, packets=PACKETS):
        tree = read(thing) if isinstance(thing, str) else thing
        code = compiled(tree)
        self.assertIs(type(code), list)
        self.assertIsNone(look(code))
        for packet in packets:
            before = list(packet)
            told = run(code, packet)
            self.assertEqual(told, 1 if takes(tree, packet) else 0, f"{thing} {packet}")
            self.assertIs(type(told), int)
            self.assertLessEqual(steps_of(code, packet), len(code))
            self.assertEqual(packet, before)

    # Told by hand too, not by takes alone.
    def assert_told(self, text, packet, told):
        self.assertEqual(run(compiled(read(text)), packet), told, f"{text} {packet}")
        self.assert_compiled(text)

    def assert_too_deep(self, tree):
        with self.assertRaises(TooDeep) as caught:
            compiled(tree)
        self.assertIsInstance(caught.exception, SieveError)


class EveryKindOfTree(Compiling):
    def test_truths(self):
        for tree, told in ((TRUE, 1), (FALSE, 0), (("not", TRUE), 0), (("not", FALSE), 1)):
            for packet in PACKETS:
                self.assertEqual(run(compiled(tree), packet), told)
            self.assert_compiled(tree)

    def test_truths_joined(self):
        for one in (TRUE, FALSE, ("same", LEN, num(2)), ("unlike", LEN, num(2))):
            for other in (TRUE, FALSE, ("below", LEN, num(4)), ("least", LEN, num(4))):
                for tree in (("both", one, other), ("either", one, other)):
                    self.assert_compiled(tree)
                    self.assert_compiled(("not", tree))
                    self.assert_compiled(("not", ("not", tree)))
                    self.assert_compiled(("both", tree, ("not", tree)))
                    self.assert_compiled(("either", tree, ("not", tree)))
                    self.assert_compiled(("either", ("not", tree), other))

    def test_each_comparison(self):
        numbers = (0, 1, 5, 2147483647, 2147483648, TOP)
        for one in numbers:
            for other in numbers:
                answers = (one == other, one != other, one < other, one > other, one <= other, one >= other)
                for test, answer in zip(COMPARISONS, answers):
                    tree = (test, num(one), num(other))
                    self.assertEqual(run(compiled(tree), []), 1 if answer else 0, tree)
                    self.assertEqual(run(compiled(("not", tree)), []), 0 if answer else 1, tree)
                    self.assert_compiled(tree, [[]])

    def test_each_op(self):
        numbers = (0, 1, 2, 7, 31, 32, 33, 2147483648, TOP)
        for op in OPS:
            for one in numbers:
                for other in numbers:
                    tree = (op, num(one), num(other))
                    for k in (0, 1, 3, TOP):
                        self.assert_compiled(("least", tree, num(k)), [[]])
                        self.assert_compiled(("least", num(k), tree), [[]])

    def test_the_numbers_of_ops_by_hand(self):
        for sign, number in (("+", 17), ("-", 7), ("*", 60), ("/", 2), ("rest", 2), ("&", 4), ("|", 13), ("^", 9),
                             ("<<", 384), (">>", 0)):
            self.assert_told(f"12 {sign} 5 = {number}", [], 1)
            self.assert_told(f"12 {sign} 5 != {number}", [], 0)
            self.assert_told(f"{number} = 12 {sign} 5", [], 1)

    def test_len_and_loads(self):
        self.assert_told("len = 0", [], 1)
        self.assert_told("len = 200", [1] * 200, 1)
        self.assert_told("byte[0] = 1", [1], 1)
        self.assert_told("half[1] = 515", [1, 2, 3], 1)
        self.assert_told("word[0] = 16909060", [1, 2, 3, 4], 1)
        self.assert_told("byte[byte[0] + 1] = 3", [1, 2, 3], 1)
        self.assert_told("byte[len - 1] = 9", [1, 2, 9], 1)
        self.assert_told("byte[4294967295 + 1] = 7", [7], 1)
        for size in (1, 2, 4):
            for place in (num(0), num(3), num(7), LEN, ("minus", LEN, num(size)), ("load", 1, num(0)), num(TOP)):
                for test in COMPARISONS:
                    self.assert_compiled((test, ("load", size, place), num(3)))
                    self.assert_compiled((test, num(3), ("load", size, place)))

    def test_parts_in_their_order(self):
        self.assert_told("10 - 3 - 2 = 5", [], 1)
        self.assert_told("10 - (3 - 2) = 9", [], 1)
        self.assert_told("(1 - 2) - (3 - 5) = 1", [], 1)
        self.assert_told("100 / (7 - 2) / 2 = 10", [], 1)
        self.assert_told("byte[0] - byte[1] < byte[1] - byte[0]", [9, 3], 1)
        self.assert_told("byte[0] - byte[1] < byte[1] - byte[0]", [3, 9], 0)

    def test_an_ordinary_filter(self):
        text = "half[0] = 2048 and so(byte[2] = 6 or byte[2] = 17) and not byte[len - 1] > 9"
        for packet, told in (([8, 0, 6, 9], 1), ([8, 0, 17, 1, 2, 3], 1), ([8, 0, 6, 10], 0), ([8, 0, 7, 9], 0),
                             ([8, 1, 6, 9], 0), ([8, 0], 0), ([8], 0), ([], 0)):
            self.assert_told(text, packet, told)


class Failing(Compiling):
    def test_asked_and_failing(self):
        for failing in FAILING:
            for text in (failing, f"not {failing}", f"not not {failing}", f"{failing} or true", f"{failing} and true",
                         f"not so({failing} and false)", f"not so({failing} or true)", f"true and {failing} or true",
                         f"false or {failing} or true", f"not so(true and {failing})", f"not so(false or {failing})",
                         f"not so(len = 4 and {failing})", f"len != 4 or {failing} or len = 4"):
                self.assert_told(text, [1, 2, 3, 4], 0)

    def test_not_asked(self):
        for failing in FAILING:
            for text in (f"not so(false and {failing})", f"false and {failing} or true", f"true or {failing}",
                         f"not so(len = 5 and {failing})", f"len = 4 or {failing}", f"true or false or {failing}",
                         f"true or {failing} and {failing}", f"false and true and {failing} or true",
                         f"not so(false and not {failing})", f"true or not {failing}",
                         f"not so(not so(len = 4 or {failing}))"):
                self.assert_told(text, [1, 2, 3, 4], 1)

    def test_too_few_bytes(self):
        text = "len > 4 and byte[4] = 7 or len <= 4"
        for packet, told in (([0, 0, 0, 0, 7], 1), ([0, 0, 0, 0, 8], 0), ([0, 0, 0, 0], 1), ([], 1)):
            self.assert_told(text, packet, told)
        for size, name in ((1, "byte"), (2, "half"), (4, "word")):
            for count in range(8):
                self.assert_told(f"{name}[2] = 0", [0] * count, 1 if count >= 2 + size else 0)
                self.assert_told(f"not {name}[2] = 1", [0] * count, 1 if count >= 2 + size else 0)


class Needs(Compiling):
    def test_in_the_first_part(self):
        for need in range(9):
            self.assert_compiled(("same", needing(need), num(4000)))
            self.assert_compiled(("same", needing(need, LEN), num(4000)))
        self.assert_too_deep(("same", needing(9), num(4000)))
        self.assert_too_deep(("same", needing(12), num(4000)))

    def test_in_the_second_part(self):
        for need in range(8):
            self.assert_compiled(("same", num(4000), needing(need)))
            self.assert_compiled(("same", num(4000), needing(need, LEN)))
        self.assert_too_deep(("same", num(4000), needing(8)))
        self.assert_too_deep(("same", num(4000), needing(11)))

    def test_in_both_parts(self):
        self.assert_compiled(("same", needing(8), needing(7)))
        self.assert_too_deep(("same", needing(9), needing(7)))
        self.assert_too_deep(("same", needing(8), needing(8)))

    def test_each_comparison_and_op(self):
        for op in OPS:
            self.assert_compiled(("same", needing(8, op=op), num(1)))
            self.assert_too_deep(("same", needing(9, op=op), num(1)))
        for test in COMPARISONS:
            self.assert_compiled((test, needing(8), needing(7)))
            self.assert_too_deep((test, needing(8), needing(8)))

    def test_every_slot_holds_its_own(self):
        tree = needing(8)
        number = 1
        for count in range(8):
            number = 1000 * (count + 1) - number
        self.assertEqual(run(compiled(("same", tree, num(number % 2 ** 32))), []), 1)
        self.assertEqual(run(compiled(("same", tree, num(number % 2 ** 32 + 1))), []), 0)
        self.assertEqual(run(compiled(("same", num(number % 2 ** 32), tree[2])), []), 0)

    def test_first_parts_ask_for_no_more(self):
        long_row = row("plus", [num(1)] * 60)
        self.assert_compiled(("same", long_row, num(60)))
        self.assert_compiled(("same", num(60), long_row))
        self.assert_compiled(("same", row("plus", [needing(8)] + [needing(7)] * 8), num(1)))
        self.assert_too_deep(("same", row("plus", [needing(8)] + [needing(7)] * 8 + [needing(8)]), num(1)))
        self.assert_too_deep(("same", row("plus", [needing(9)] + [needing(7)] * 8), num(1)))

    def test_loads_ask_for_no_more(self):
        for size in (1, 2, 4):
            for wrapped in range(8):
                tree = num(1)
                for count in range(7):
                    tree = ("plus", num(0), tree)
                    if count <= wrapped:
                        tree = ("load", size, tree)
                self.assert_compiled(("same", num(0), tree), PACKETS + ([0] * 20,))
                self.assert_compiled(("same", ("plus", num(0), tree), num(0)), PACKETS + ([0] * 20,))
                self.assert_too_deep(("same", num(0), ("plus", num(0), tree)))
                self.assert_too_deep(("same", num(0), ("load", size, ("plus", num(0), tree))))
                self.assert_too_deep(("same", ("load", size, ("plus", num(0), ("plus", num(0), tree))), num(0)))

    def test_loads_alone_need_nothing(self):
        place = num(0)
        for _ in range(12):
            place = ("load", 1, place)
        self.assert_compiled(("same", place, place), PACKETS + (list(range(1, 20)),))
        self.assert_compiled(("same", num(12), place), PACKETS + (list(range(1, 20)),))

    def test_in_one_comparison_of_several(self):
        plain, deep, most = ("same", LEN, LEN), ("same", LEN, needing(8)), ("same", LEN, needing(7))
        for at in range(6):
            for head in ("both", "either"):
                parts = [plain] * 6
                parts[at] = most
                self.assert_compiled(row(head, parts))
                parts[at] = deep
                self.assert_too_deep(row(head, parts))
                self.assert_too_deep(("not", row(head, parts)))

    def test_whether_it_would_be_asked_or_not(self):
        deep = ("same", LEN, needing(8))
        for tree in (deep, ("not", deep), ("both", FALSE, deep), ("either", TRUE, deep), ("both", deep, FALSE),
                     ("either", deep, TRUE), ("not", ("both", FALSE, ("not", deep)))):
            self.assert_too_deep(tree)
        self.assert_too_deep(("same", ("over", num(1), num(0)), needing(8)))

    def test_joining_tests_adds_nothing(self):
        tree = ("same", needing(8), needing(7))
        for _ in range(3):
            tree = ("both", ("not", tree), ("either", FALSE, tree))
        self.assert_compiled(tree)

    def test_of_texts(self):
        for count in range(1, 13):
            second = "(1 + " * count + "1" + ")" * count
            if count <= 7:
                self.assert_compiled(f"{second} = {second}")
            else:
                self.assert_too_deep(read(f"1 = {second}"))
            if count <= 8:
                self.assert_compiled(f"{second} = 9")
            else:
                self.assert_too_deep(read(f"{second} = 9"))


class LargeTrees(Compiling):
    def test_long_rows_of_comparisons(self):
        for head in ("both", "either"):
            for test in COMPARISONS:
                tree = row(head, [(test, LEN, num(place)) for place in range(75)])
                self.assertEqual(tuples_in(tree), 299)
                self.assert_compiled(tree, PACKETS + ([1] * 74, [1] * 75))
                self.assert_compiled(("not", tree), PACKETS + ([1] * 74, [1] * 75))

    def test_the_longest_code_in_its_midst(self):
        total = ("plus", LEN, LEN)
        tree = row("either", [("same", row("plus", [LEN] * 71), total), ("above", row("minus", [LEN] * 74), LEN)])
        self.assertTrue(290 <= tuples_in(tree) <= 300)
        self.assert_compiled(tree)

    def test_rows_of_and_and_or_in_turn(self):
        tree = ("above", LEN, num(2))
        for count in range(70):
            tree = ("both" if count % 2 else "either", tree, (COMPARISONS[count % 6], LEN, num(count % 9)))
        self.assertTrue(270 <= tuples_in(tree) <= 300)
        self.assert_compiled(tree)
        self.assert_compiled(("not", tree))

    def test_deep_to_the_right(self):
        tree = ("above", LEN, num(2))
        for count in range(70):
            tree = ("both" if count % 2 else "either", (COMPARISONS[count % 6], LEN, num(count % 9)), tree)
        self.assert_compiled(tree)
        self.assert_compiled(("not", tree))

    def test_rows_of_truths(self):
        for head in ("both", "either"):
            for part, last in ((TRUE, FALSE), (FALSE, TRUE)):
                tree = row(head, [part] * 149 + [last])
                self.assertEqual(tuples_in(tree), 299)
                self.assert_compiled(tree)
                self.assert_compiled(("not", tree))

    def test_a_deep_row_of_ops(self):
        chain = row("plus", [num(1)] * 148 + [LEN])
        self.assertEqual(tuples_in(("same", chain, num(148))), 299)
        self.assertEqual(run(compiled(("same", chain, num(148))), []), 1)
        self.assert_compiled(("same", chain, num(148)))
        self.assert_compiled(("same", num(150), chain))

    def test_a_wide_tree(self):
        leaves = [("least", ("load", 1, num(place)), num(place)) for place in range(48)]
        while len(leaves) > 1:
            leaves = [("both",) + pair for pair in zip(leaves[::2], leaves[1::2])] + leaves[len(leaves) // 2 * 2:]
        tree = leaves[0]
        self.assertTrue(200 <= tuples_in(tree) <= 300)
        self.assert_compiled(tree, PACKETS + (list(range(48)), list(range(47)) + [0], list(range(47))))

    def test_somewhat_beyond_is_not_refused(self):
        tree = TRUE
        for _ in range(299):
            tree = ("not", tree)
        self.assert_compiled(tree)
        place = LEN
        for _ in range(290):
            place = ("load", 1, place)
        self.assert_compiled(("same", place, num(0)))
        self.assert_compiled(row("either", [("same", LEN, num(count)) for count in range(100)]))
        self.assert_compiled(("same", row("plus", [LEN] * 200), num(400)))


# Written anew from the words of the document, by calls within calls.
def need_of(tree):
    if tree[0] in ("number", "len"):
        return 0
    if tree[0] == "load":
        return need_of(tree[2])
    return max(need_of(tree[1]), 1 + need_of(tree[2]))


def greatest_need(tree):
    if tree[0] == "truth":
        return 0
    if tree[0] == "not":
        return greatest_need(tree[1])
    if tree[0] in ("both", "either"):
        return max(greatest_need(tree[1]), greatest_need(tree[2]))
    return need_of(tree)


def some_number(chance, size):
    if size <= 1:
        return chance.choice((num(0), num(1), num(2), num(3), num(TOP), LEN))
    if chance.random() < 0.2:
        return ("load", chance.choice((1, 2, 4)), some_number(chance, size - 1))
    first = chance.randrange(1, size)
    return (chance.choice(OPS), some_number(chance, first), some_number(chance, size - first))


def some_truth(chance, size):
    if size <= 1:
        return chance.choice((TRUE, FALSE))
    kind = chance.random()
    if kind < 0.2:
        return ("not", some_truth(chance, size - 1))
    first = chance.randrange(1, size)
    if kind < 0.6:
        return (chance.choice(COMPARISONS), some_number(chance, first), some_number(chance, size - first))
    return (chance.choice(("both", "either")), some_truth(chance, first), some_truth(chance, size - first))


class ManyTrees(Compiling):
    def test_small_ones(self):
        chance = random.Random(7)
        for _ in range(3000):
            self.assert_compiled(some_truth(chance, chance.randrange(1, 14)))

    def test_too_deep_just_where_the_need_is_too_great(self):
        chance = random.Random(8)
        needs = {}
        for _ in range(1500):
            tree = some_truth(chance, chance.randrange(20, 150))
            need = greatest_need(tree)
            needs[need] = needs.get(need, 0) + 1
            if need > 8:
                self.assert_too_deep(tree)
            else:
                self.assert_compiled(tree, PACKETS[::3])
        self.assertGreater(min(needs[need] for need in (7, 8, 9, 10)), 20)


class ToldAnew(Compiling):
    def test_each_time_a_new_list(self):
        tree = read("byte[0] = 1 or true")
        one, other = compiled(tree), compiled(tree)
        self.assertEqual(one, other)
        self.assertIsNot(one, other)
        one.clear()
        self.assertEqual(compiled(tree), other)

    def test_the_tree_stays(self):
        tree = read("not byte[len - 1] = 1 or true and so(false)")
        before = read("not byte[len - 1] = 1 or true and so(false)")
        compiled(tree)
        self.assertEqual(tree, before)


if __name__ == "__main__":
    unittest.main()
