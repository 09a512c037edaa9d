"""[0.1] and [0.2] The whole way: a text read, compiled, shrunk, written, read back and run, against takes."""

import copy
import random
import unittest

from netsieve.compiling import compiled
from netsieve.filters import read, takes
from netsieve.lines import read_code, written
from netsieve.looking import is_let_in
from netsieve.machine import run, steps_of
from netsieve.shrinking import shrunk

PACKETS = (
    [],
    [0],
    [1],
    [8, 0],
    [8, 0, 6],
    [8, 0, 6, 9],
    [8, 0, 17, 1, 2, 3],
    [1, 2, 3, 4],
    [0, 0, 0, 1, 0, 255, 2],
    [69, 0, 0, 20, 0, 1, 64, 0, 64, 6, 0, 0, 10, 0, 0, 1, 10, 0, 0, 2],
    [255] * 200,
)
# A filter, and for each of the packets above whether it is taken, told by hand.
TAKEN = (
    ("true", "yyyyyyyyyyy"),
    ("false", "nnnnnnnnnnn"),
    ("not false and true", "yyyyyyyyyyy"),
    ("so(true or false) and not so(false or false)", "yyyyyyyyyyy"),
    ("len = 0", "ynnnnnnnnnn"),
    ("len > 3 and len <= 6", "nnnnnyyynnn"),
    ("byte[0] = 8", "nnnyyyynnnn"),
    ("not byte[0] = 8", "nyynnnnyyyy"),
    ("byte[0] = 8 or true", "nyyyyyyyyyy"),
    ("true or byte[0] = 8", "yyyyyyyyyyy"),
    ("false and byte[0] = 8 or len < 2", "yyynnnnnnnn"),
    ("half[0] = 2048", "nnnyyyynnnn"),
    ("half[0] = 2048 and byte[2] = 6", "nnnnyynnnnn"),
    ("half[0] = 2048 and len > 2 and so(byte[2] = 6 or byte[2] = 17)", "nnnnyyynnnn"),
    ("word[0] = 16909060", "nnnnnnnynnn"),
    ("word[len - 4] >= 0", "nnnnnyyyyyy"),
    ("byte[0] >> 4 = 4 and byte[byte[0] & 15] = 1", "nnnnnnnnnyn"),
    ("byte[0] rest byte[1] = 1", "nnnnnnnynnn"),
    ("100 / byte[0] >= 0 or true", "nnyyyyyynyy"),
    ("len != 0 and byte[len - 1] = 255", "nnnnnnnnnny"),
    ("len = 0 or byte[len - 1] = 255", "ynnnnnnnnny"),
    ("0 - len = 4294967295", "nyynnnnnnnn"),
    ("byte[1 + byte[0] * 0] * 2 = 4", "nnnnnnnynnn"),
)


def whole_way(tree):
    return read_code(written(shrunk(compiled(tree))))


class WholeWay(unittest.TestCase):
    def assert_tells_the_same(self, tree):
        code = compiled(tree)
        short = shrunk(code)
        again = read_code(written(short))
        self.assertEqual(again, short)
        self.assertLessEqual(len(short), len(code))
        for steps in (code, short, again):
            self.assertTrue(is_let_in(steps))
            for packet in PACKETS:
                self.assertEqual(run(steps, packet), 1 if takes(tree, packet) else 0, f"{tree} {packet}")
                self.assertLessEqual(steps_of(steps, packet), len(steps))

    def test_told_by_hand(self):
        for text, answers in TAKEN:
            for packet, answer in zip(PACKETS, answers, strict=True):
                with self.subTest(f"{text} {packet}"):
                    self.assertEqual(run(whole_way(read(text)), packet), 1 if answer == "y" else 0)
                    self.assertIs(takes(read(text), packet), answer == "y")

    def test_against_takes(self):
        for text, answers in TAKEN:
            self.assert_tells_the_same(read(text))
            self.assert_tells_the_same(read(f"not so({text})"))

    def test_two_joined(self):
        texts = [text for text, answers in TAKEN]
        for one in texts:
            for other in texts:
                self.assert_tells_the_same(read(f"{one} and {other}"))
                self.assert_tells_the_same(read(f"{one} or {other}"))
                self.assert_tells_the_same(read(f"not so({one}) or so({other}) and not {other}"))

    def test_many_joined(self):
        chance = random.Random(11)
        texts = [text for text, answers in TAKEN]
        count = 0
        while count < 300:
            text = chance.choice(texts)
            for _ in range(chance.randrange(3, 9)):
                text += chance.choice((" and ", " or ", " and not ", " or not ")) + f"so({chance.choice(texts)})"
            if len(text) <= 300:
                count += 1
                self.assert_tells_the_same(read(text))

    def test_a_long_text(self):
        self.assert_tells_the_same(read(" or ".join(["len=1 and byte[0]=1"] * 13)))
        self.assert_tells_the_same(read(" and ".join(["len>1"] * 30)))
        self.assert_tells_the_same(read("len" + "+1" * 148 + "=1"))


class HandedIn(unittest.TestCase):
    def test_nothing_is_changed(self):
        tree = read("half[0] = 2048 and so(byte[2] = 6 or byte[2] = 17) or false")
        code = compiled(tree)
        before = copy.deepcopy(code)
        packet = [8, 0, 17]
        for told in (shrunk(code), written(code), is_let_in(code), run(code, packet), steps_of(code, packet)):
            self.assertIsNotNone(told)
        self.assertEqual(code, before)
        self.assertEqual(packet, [8, 0, 17])

    def test_nothing_is_kept(self):
        tree = read("byte[0] = 8")
        code, text = compiled(tree), written(compiled(tree))
        for made in (compiled, shrunk, read_code):
            handed_in = {compiled: tree, shrunk: code, read_code: text}[made]
            first = made(handed_in)
            before = list(first)
            first[0] = None
            first.append(None)
            self.assertEqual(made(handed_in), before)

    def test_lists_are_new_each_time(self):
        tree = read("byte[0] = 8")
        code = shrunk(compiled(tree))
        self.assertIsNot(compiled(tree), compiled(tree))
        self.assertEqual(shrunk(code), code)
        self.assertIsNot(shrunk(code), code)
        self.assertIsNot(shrunk(code), shrunk(code))
        self.assertIsNot(read_code(written(code)), read_code(written(code)))


if __name__ == "__main__":
    unittest.main()
