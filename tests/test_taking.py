"""[2.5] What a filter says of a packet; [0.1] what is handed in stays as it was."""

import random
import unittest

from netsieve.filters import read, takes
from netsieve.numbers import reckoned

TOP = 4294967295
TRUE, FALSE, LEN = ("truth", True), ("truth", False), ("len",)
OPS = ("plus", "minus", "times", "over", "rest", "and", "or", "xor", "left", "right")
COMPARISONS = ("same", "unlike", "below", "above", "most", "least")
PACKET = [1, 2, 3, 4, 255, 254, 253, 252]
# Tests that let the filter as a whole not take the packet, of four bytes or less.
FAILING = ("byte[4] = 0", "half[3] = 0", "word[1] = 0", "1 / 0 = 0", "1 rest 0 = 0", "0 = 1 / (len - len)",
           "byte[4294967295] != 1", "not byte[4] = 0", "0 * byte[9] = 0", "len >= byte[1 / 0]")


def num(k):
    return ("number", k)


def tuples_in(tree):
    return 1 + sum(tuples_in(part) for part in tree if isinstance(part, tuple))


# From the left, each part joined to what stands ahead of it.
def row(head, parts):
    tree = parts[0]
    for part in parts[1:]:
        tree = (head, tree, part)
    return tree


class Taking(unittest.TestCase):
    def assert_takes(self, thing, packet, expected):
        with self.subTest(f"{thing} {packet}"):
            tree = read(thing) if isinstance(thing, str) else thing
            self.assertIs(takes(tree, packet), expected)


class Numbers(Taking):
    def assert_number(self, text, packet, number):
        self.assert_takes(f"{text} = {number}", packet, True)
        self.assert_takes(f"{text} != {number}", packet, False)

    def test_len(self):
        for count in (0, 1, 199, 200, 250):
            self.assert_number("len", [9] * count, count)

    def test_loads(self):
        for name, size in (("byte", 1), ("half", 2), ("word", 4)):
            for place in range(9 - size):
                number = int.from_bytes(bytes(PACKET[place:place + size]), "big")
                self.assert_number(f"{name}[{place}]", PACKET, number)
                self.assert_number(f"{name}[{place} + len - 8]", PACKET, number)

    def test_loads_within_loads(self):
        self.assert_number("byte[byte[0]]", PACKET, 2)
        self.assert_number("byte[byte[byte[0]]]", PACKET, 3)
        self.assert_number("half[byte[1] + byte[2]]", PACKET, 65277)

    def test_bytes_that_are_not_all_there(self):
        for test in ("byte[8]", "half[7]", "half[8]", "word[5]", "word[6]", "word[7]", "word[8]", "byte[4294967295]",
                     "word[4294967295]", "word[4294967293]"):
            self.assert_takes(f"{test} = 0", PACKET, False)
            self.assert_takes(f"{test} != 0", PACKET, False)
            self.assert_takes(f"not {test} = 0", PACKET, False)
        for name in ("byte", "half", "word"):
            self.assert_takes(f"{name}[0] >= 0", [], False)

    def test_the_place_is_brought_round_as_a_number(self):
        self.assert_number("byte[4294967295 + 1]", PACKET, 1)
        self.assert_number("byte[0 - 1 + 2]", PACKET, 2)
        self.assert_takes("byte[0 - 1] >= 0", PACKET, False)

    def test_each_op(self):
        for sign, number in (("+", 17), ("-", 7), ("*", 60), ("/", 2), ("rest", 2), ("&", 4), ("|", 13), ("^", 9),
                             ("<<", 384), (">>", 0)):
            self.assert_number(f"12 {sign} 5", [], number)

    def test_each_op_by_all_numbers(self):
        numbers = (0, 1, 2, 7, 31, 32, 33, 2147483648, TOP - 1, TOP)
        for op in OPS:
            for one in numbers:
                for other in numbers:
                    answer = reckoned(op, one, other)
                    tree = (op, num(one), num(other))
                    self.assert_takes(("same", tree, num(answer or 0)), [], answer is not None)
                    self.assert_takes(("unlike", tree, num(answer or 0)), [], False)

    def test_numbers_go_round(self):
        self.assert_number("4294967295 + 1", [], 0)
        self.assert_number("0 - 1", [], TOP)
        self.assert_number("4294967295 * 4294967295", [], 1)
        self.assert_number("1 << 32", [], 0)
        self.assert_number("1 >> 4294967295", [], 0)

    def test_from_the_left(self):
        self.assert_number("10 - 3 - 2", [], 5)
        self.assert_number("100 / 5 / 2", [], 10)
        self.assert_number("100 / 5 * 2", [], 40)
        self.assert_number("1 << 2 << 3", [], 32)
        self.assert_number("7 + 5 & 4 | 8", [], 11)
        self.assert_number("7 | 8 & 12 - 4", [], 11)

    def test_by_0(self):
        for text in ("1 / 0", "1 rest 0", "0 / 0", "0 rest 0", "5 / (1 - 1)", "5 rest byte[2]"):
            for sign in ("=", "!=", "<", ">", "<=", ">="):
                self.assert_takes(f"{text} {sign} 0", [1, 1, 0], False)
                self.assert_takes(f"0 {sign} {text}", [1, 1, 0], False)
                self.assert_takes(f"not {text} {sign} 0", [1, 1, 0], False)


class Truths(Taking):
    def test_plain_truths(self):
        self.assert_takes("true", [], True)
        self.assert_takes("false", [], False)
        self.assert_takes("not true", [], False)
        self.assert_takes("not false", [], True)
        self.assert_takes("not not true", [], True)

    def test_each_comparison(self):
        numbers = (0, 1, 5, 2147483647, 2147483648, TOP)
        for one in numbers:
            for other in numbers:
                answers = (one == other, one != other, one < other, one > other, one <= other, one >= other)
                for test, answer in zip(COMPARISONS, answers):
                    self.assert_takes((test, num(one), num(other)), [], answer)
                    self.assert_takes(("not", (test, num(one), num(other))), [], not answer)

    def test_and_and_or(self):
        for one in (TRUE, FALSE):
            for other in (TRUE, FALSE):
                self.assert_takes(("both", one, other), [], one[1] and other[1])
                self.assert_takes(("either", one, other), [], one[1] or other[1])
                self.assert_takes(("not", ("both", one, other)), [], not (one[1] and other[1]))
                self.assert_takes(("not", ("either", one, other)), [], not (one[1] or other[1]))

    def test_an_ordinary_filter(self):
        text = "half[0] = 2048 and so(byte[2] = 6 or byte[2] = 17) and not byte[len - 1] > 9"
        self.assert_takes(text, [8, 0, 6, 9], True)
        self.assert_takes(text, [8, 0, 17, 1, 2, 3], True)
        self.assert_takes(text, [8, 0, 6, 10], False)
        self.assert_takes(text, [8, 0, 7, 9], False)
        self.assert_takes(text, [8, 1, 6, 9], False)
        self.assert_takes(text, [8, 0], False)
        self.assert_takes(text, [8], False)
        self.assert_takes(text, [], False)


class NotAsked(Taking):
    def test_and_does_not_ask_where_the_first_does_not_hold(self):
        for failing in FAILING:
            self.assert_takes(f"not so(false and {failing})", [1, 2, 3, 4], True)
            self.assert_takes(f"false and {failing} or true", [1, 2, 3, 4], True)
            self.assert_takes(f"not so(len = 5 and {failing})", [1, 2, 3, 4], True)
            self.assert_takes(f"false and true and {failing} or true", [1, 2, 3, 4], True)
            self.assert_takes(f"false and so({failing} or {failing}) or true", [1, 2, 3, 4], True)

    def test_or_does_not_ask_where_the_first_holds(self):
        for failing in FAILING:
            self.assert_takes(f"true or {failing}", [1, 2, 3, 4], True)
            self.assert_takes(f"len = 4 or {failing}", [1, 2, 3, 4], True)
            self.assert_takes(f"true or false or {failing}", [1, 2, 3, 4], True)
            self.assert_takes(f"true or {failing} and {failing}", [1, 2, 3, 4], True)

    def test_asked_where_the_first_does_not_settle_it(self):
        for failing in FAILING:
            self.assert_takes(f"not so(true and {failing})", [1, 2, 3, 4], False)
            self.assert_takes(f"true and {failing} or true", [1, 2, 3, 4], False)
            self.assert_takes(f"false or {failing} or true", [1, 2, 3, 4], False)
            self.assert_takes(f"not so(false or {failing})", [1, 2, 3, 4], False)

    def test_the_first_is_asked_in_any_case(self):
        for failing in FAILING:
            for text in (failing, f"not {failing}", f"not not {failing}", f"{failing} or true", f"{failing} and true",
                         f"not so({failing} and false)", f"not so({failing} or true)", f"so({failing}) or true",
                         f"true and so({failing} or true)", f"not not so({failing} or true) or true"):
                self.assert_takes(text, [1, 2, 3, 4], False)

    def test_both_sides_of_a_comparison_are_asked(self):
        self.assert_takes("0 * byte[9] = 0 or true", [1], False)
        self.assert_takes("0 & 1 / 0 = 0 or true", [1], False)
        self.assert_takes("1 = 2 + byte[9] or true", [1], False)

    def test_bytes_looked_for_only_where_they_are(self):
        text = "len > 4 and byte[4] = 7 or len <= 4"
        self.assert_takes(text, [0, 0, 0, 0, 7], True)
        self.assert_takes(text, [0, 0, 0, 0, 8], False)
        self.assert_takes(text, [0, 0, 0, 0], True)
        self.assert_takes(text, [], True)


class LargeTrees(Taking):
    def test_a_deep_row_of_ops(self):
        chain = row("plus", [num(1)] * 149)
        self.assertEqual(tuples_in(("same", chain, num(149))), 299)
        self.assert_takes(("same", chain, num(149)), [], True)
        self.assert_takes(("same", num(148), chain), [], False)

    def test_a_deep_row_of_tests(self):
        for head, part, answer in (("both", TRUE, True), ("both", FALSE, False), ("either", TRUE, True),
                                   ("either", FALSE, False)):
            tree = row(head, [part] * 150)
            self.assertEqual(tuples_in(tree), 299)
            self.assert_takes(tree, [], answer)
            self.assert_takes(("not", tree), [], not answer)

    def test_the_end_of_a_deep_row_counts(self):
        self.assert_takes(row("both", [TRUE] * 149 + [FALSE]), [], False)
        self.assert_takes(row("either", [FALSE] * 149 + [TRUE]), [], True)
        failing = ("same", ("over", num(1), num(0)), num(0))
        self.assert_takes(row("either", [failing] + [TRUE] * 140), [], False)
        self.assert_takes(row("either", [TRUE] * 140 + [failing]), [], True)
        self.assert_takes(row("both", [TRUE] * 140 + [failing]), [], False)
        self.assert_takes(("not", row("both", [FALSE] * 140 + [failing])), [], True)

    def test_rows_within_rows(self):
        product = row("times", [num(2)] * 30)
        total = row("plus", [product] + [num(1)] * 30)
        test = ("same", total, num(2 ** 30 + 30))
        tree = row("either", [row("both", [test] + [TRUE] * 40)] + [FALSE] * 40)
        self.assertLessEqual(tuples_in(tree), 300)
        self.assert_takes(tree, [], True)
        self.assert_takes(("not", tree), [], False)

    def test_a_wide_tree(self):
        leaves = [("least", ("load", 1, num(place)), num(place)) for place in range(48)]
        while len(leaves) > 1:
            leaves = [("both",) + pair for pair in zip(leaves[::2], leaves[1::2])] + leaves[len(leaves) // 2 * 2:]
        tree = leaves[0]
        self.assertTrue(200 <= tuples_in(tree) <= 300)
        self.assert_takes(tree, list(range(48)), True)
        self.assert_takes(tree, list(range(47)) + [0], False)
        self.assert_takes(tree, list(range(47)), False)

    def test_twelve_within_one_another(self):
        place = num(0)
        for _ in range(12):
            place = ("load", 1, place)
        self.assert_takes(("same", place, num(12)), list(range(1, 14)), True)
        tree = TRUE
        for _ in range(12):
            tree = ("not", tree)
        self.assert_takes(tree, [], True)

    def test_somewhat_beyond_is_not_refused(self):
        tree = TRUE
        for _ in range(299):
            tree = ("not", tree)
        self.assert_takes(tree, [], False)
        place = LEN
        for _ in range(290):
            place = ("load", 1, place)
        self.assert_takes(("same", place, num(0)), [0], False)
        self.assert_takes(("same", ("load", 1, num(0)), num(0)), [0] * 250, True)

    # Too deep to be shown, so asked outside assert_takes.
    def test_depth_is_no_bound(self):
        self.assertIs(takes(row("both", [TRUE] * 5000), []), True)
        self.assertIs(takes(("same", row("plus", [num(1)] * 5000), num(5000)), []), True)

    def test_more_open_to_the_right(self):
        tree = TRUE
        for _ in range(11):
            tree = ("both", TRUE, ("either", FALSE, tree))
        self.assert_takes(tree, [], True)


class Failed(Exception):
    pass


# Written anew from the words of the document, by calls within calls.
def asked(tree, packet):
    head = tree[0]
    if head in ("number", "truth"):
        return tree[1]
    if head == "len":
        return len(packet)
    if head == "not":
        return not asked(tree[1], packet)
    if head == "both":
        return asked(tree[1], packet) and asked(tree[2], packet)
    if head == "either":
        return asked(tree[1], packet) or asked(tree[2], packet)
    if head == "load":
        place = asked(tree[2], packet)
        found = packet[place:place + tree[1]]
        if len(found) < tree[1]:
            raise Failed
        return int.from_bytes(bytes(found), "big")
    one, other = asked(tree[1], packet), asked(tree[2], packet)
    if head in ("over", "rest") and other == 0:
        raise Failed
    return joined(head, one, other)


def joined(head, one, other):
    return {
        "plus": lambda: (one + other) % 2 ** 32,
        "minus": lambda: (one - other) % 2 ** 32,
        "times": lambda: one * other % 2 ** 32,
        "over": lambda: one // other,
        "rest": lambda: one % other,
        "and": lambda: one & other,
        "or": lambda: one | other,
        "xor": lambda: one ^ other,
        "left": lambda: one * 2 ** min(other, 32) % 2 ** 32,
        "right": lambda: one // 2 ** min(other, 32),
        "same": lambda: one == other,
        "unlike": lambda: one != other,
        "below": lambda: one < other,
        "above": lambda: one > other,
        "most": lambda: one <= other,
        "least": lambda: one >= other,
    }[head]()


def expected(tree, packet):
    try:
        return asked(tree, packet)
    except Failed:
        return False


def some_number(chance, size):
    if size <= 1:
        return chance.choice((num(0), num(1), num(2), num(3), num(TOP), LEN))
    if chance.random() < 0.3:
        return ("load", chance.choice((1, 2, 4)), some_number(chance, size // 2))
    first = chance.randrange(1, size)
    return (chance.choice(OPS), some_number(chance, first), some_number(chance, size - first))


def some_truth(chance, size):
    if size <= 1:
        return chance.choice((TRUE, FALSE))
    kind = chance.random()
    if kind < 0.2:
        return ("not", some_truth(chance, size - 1))
    first = chance.randrange(1, size)
    if kind < 0.6:
        return (chance.choice(COMPARISONS), some_number(chance, first), some_number(chance, size - first))
    return (chance.choice(("both", "either")), some_truth(chance, first), some_truth(chance, size - first))


class AgainstCallsWithinCalls(unittest.TestCase):
    def test_many_trees_and_packets(self):
        chance = random.Random(4)
        packets = ([], [0], [1, 2], [3, 0, 1, 2], [0, 0, 0, 1, 0, 255, 2], [chance.randrange(4) for _ in range(200)])
        answers = {True: 0, False: 0}
        for _ in range(4000):
            tree = some_truth(chance, chance.randrange(1, 14))
            for packet in packets:
                answer = takes(tree, packet)
                answers[answer] += 1
                self.assertIs(answer, expected(tree, packet), f"{tree} {packet}")
        self.assertGreater(min(answers.values()), 5000)


class HandedIn(unittest.TestCase):
    def test_the_packet_stays_as_it_was(self):
        tree = read("byte[0] = 1 and half[1] = 515 or word[9] = 1")
        for packet in ([], [1], [1, 2, 3], [2, 2, 3], [0] * 20):
            before = list(packet)
            takes(tree, packet)
            self.assertEqual(packet, before)

    def test_nothing_is_kept_of_it(self):
        tree, packet = read("byte[0] = 1"), [1]
        self.assertIs(takes(tree, packet), True)
        packet[0] = 2
        self.assertIs(takes(tree, packet), False)
        packet.clear()
        self.assertIs(takes(tree, packet), False)

    def test_reading_is_told_the_same_each_time(self):
        text = "not byte[len - 1] = 1 or true and so(false)"
        self.assertEqual(read(text), read(text))


if __name__ == "__main__":
    unittest.main()
