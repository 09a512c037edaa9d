"""[1.2] What a step is."""

import unittest

from netsieve.looking import is_step

TOP = 4294967295
OPS = ("plus", "minus", "times", "over", "rest", "and", "or", "xor", "left", "right")
TESTS = ("equal", "above", "least", "any")
BARE = (("len",), ("tax",), ("txa",), ("tella",))

NUMBERS = (0, 1, 31, 32, 2001, TOP)
NO_NUMBERS = (-1, TOP + 1, 10 ** 59, -(10 ** 59))
SLOTS = (0, 1, 2, 3, 4, 5, 6, 7)
NO_SLOTS = (-1, 8, TOP)
DISTANCES = (0, 1, 1999, 2000)
NO_DISTANCES = (-1, 2001, TOP)
SIZES = (1, 2, 4)
NO_SIZES = (-1, 0, 3, 5, 8)
OF_NO_NUMERIC_KIND = (None, True, False, "", "0", "1", [], [0], (), (0,), [[1]], ((1,),))
NO_WORDS = ("", " ", "plus ", "Plus", "at ", "AT", "X", "same", "below", "most", "unlike", "not", "tell", "+", "a", "xx",
            None, True, False, 0, 1, [], ["at"], ["plus"], ["any"], (), ("at",), ("plus",), ("any",))

# One good step of every kind, with the kind of each of its parts.
SAMPLES = (
    (("load", 1, "at", 0), ("size", "base", "number")),
    (("load", 2, "x", 5), ("size", "base", "number")),
    (("len",), ()),
    (("set", 1), ("number",)),
    (("setx", 1), ("number",)),
    (("tax",), ()),
    (("txa",), ()),
    (("keep", 1), ("slot",)),
    (("fetch", 1), ("slot",)),
    (("do", "plus", 1), ("op", "number")),
    (("dox", "plus"), ("op",)),
    (("jump", 1), ("distance",)),
    (("if", "equal", 1, 1, 1), ("test", "number", "distance", "distance")),
    (("ifx", "equal", 1, 1), ("test", "distance", "distance")),
    (("tell", 1), ("number",)),
    (("tella",), ()),
)
GOOD = {"size": SIZES, "base": ("at", "x"), "number": NUMBERS, "slot": SLOTS, "distance": DISTANCES,
        "op": OPS, "test": TESTS}
BAD = {"size": NO_SIZES + OF_NO_NUMERIC_KIND, "base": NO_WORDS + OPS + TESTS,
       "number": NO_NUMBERS + OF_NO_NUMERIC_KIND, "slot": NO_SLOTS + OF_NO_NUMERIC_KIND,
       "distance": NO_DISTANCES + OF_NO_NUMERIC_KIND, "op": NO_WORDS + TESTS, "test": NO_WORDS + OPS}


# The step with one part changed for another.
def with_part(step, index, part):
    return step[:index] + (part,) + step[index + 1:]


class Steps(unittest.TestCase):
    def assert_step(self, thing):
        with self.subTest(repr(thing)):
            self.assertIs(is_step(thing), True)

    def assert_no_step(self, thing):
        with self.subTest(repr(thing)):
            self.assertIs(is_step(thing), False)

    def test_a_step_of_every_kind(self):
        for step, _ in SAMPLES:
            self.assert_step(step)

    def test_every_part_at_its_edges(self):
        for step, kinds in SAMPLES:
            for index, kind in enumerate(kinds, start=1):
                for part in GOOD[kind]:
                    self.assert_step(with_part(step, index, part))

    def test_every_part_beyond_its_edges_or_of_another_kind(self):
        for step, kinds in SAMPLES:
            for index, kind in enumerate(kinds, start=1):
                for part in BAD[kind]:
                    self.assert_no_step(with_part(step, index, part))

    def test_loads(self):
        for base in ("at", "x"):
            for size in SIZES:
                for k in NUMBERS:
                    self.assert_step(("load", size, base, k))
            for size in NO_SIZES + (True, False):
                self.assert_no_step(("load", size, base, 0))

    def test_do_of_each_op_at_its_bounds(self):
        for op in OPS:
            by_0 = op not in ("over", "rest")
            by_32 = op not in ("left", "right")
            for k, allowed in ((0, by_0), (1, True), (31, True), (32, by_32), (33, by_32), (TOP, by_32),
                               (TOP + 1, False), (-1, False), (True, False), (False, False)):
                with self.subTest(f"{op} {k}"):
                    self.assertIs(is_step(("do", op, k)), allowed)

    def test_dox_of_each_op(self):
        for op in OPS:
            self.assert_step(("dox", op))
            self.assert_no_step(("dox", op, 1))
            self.assert_no_step(("do", op))

    def test_each_test_with_distances_at_their_edges(self):
        for test in TESTS:
            for first in DISTANCES:
                for second in DISTANCES:
                    self.assert_step(("if", test, TOP, first, second))
                    self.assert_step(("ifx", test, first, second))
            for bad in NO_DISTANCES:
                for step in (("if", test, 0, bad, 0), ("if", test, 0, 0, bad), ("ifx", test, bad, 0),
                             ("ifx", test, 0, bad)):
                    self.assert_no_step(step)

    def test_a_test_in_an_ops_place_and_the_other_way(self):
        for test in TESTS:
            self.assert_no_step(("do", test, 1))
            self.assert_no_step(("dox", test))
        for op in OPS:
            self.assert_no_step(("if", op, 1, 0, 0))
            self.assert_no_step(("ifx", op, 0, 0))

    def test_parts_too_many(self):
        for step, _ in SAMPLES:
            for part in (0, 1, None, "at", "plus", ()):
                self.assert_no_step(step + (part,))
                self.assert_no_step((part,) + step)

    def test_parts_too_few(self):
        for step, _ in SAMPLES:
            self.assert_no_step(step[1:])
            for count in range(1, len(step)):
                self.assert_no_step(step[:count])

    def test_lists_in_a_tuples_place(self):
        for step, _ in SAMPLES:
            self.assert_no_step(list(step))
            self.assert_no_step([step])
            self.assert_no_step((step,))
            self.assert_no_step(([step[0]],) + step[1:])

    def test_other_words(self):
        words = ("", " ", "Len", "LEN", "len ", " len", "loadx", "loads", "get", "put", "end", "at", "x", "plus",
                 "equal", "jumpx", "doxx", "tellx", "telli", "size", "number", "op", None, True, 0, 1, (), [], ["len"],
                 ("len",))
        for word in words:
            self.assert_no_step((word,))
            for step, _ in SAMPLES:
                self.assert_no_step((word,) + step[1:])

    def test_other_things(self):
        things = (None, True, False, 0, 1, -1, TOP, 10 ** 59, "", "len", "tella", "a" * 300, [], [[]], (), ((),), ([],),
                  ["len"], [("len",)], (None,), (True,), (0,), ((("len",),),))
        for thing in things:
            self.assert_no_step(thing)

    def test_deep_things(self):
        for wrap in (lambda thing: [thing], lambda thing: (thing,)):
            thing = ("len",)
            for _ in range(5000):
                thing = wrap(thing)
            for whole in (thing, ("set", thing), ("dox", thing), ("load", thing, thing, thing), (thing, 1)):
                self.assertIs(is_step(whole), False)

    def test_what_is_handed_in_stays(self):
        parts = ["len"]
        self.assertIs(is_step(parts), False)
        self.assertEqual(parts, ["len"])
        inner = [1]
        thing = ("set", inner)
        self.assertIs(is_step(thing), False)
        self.assertEqual(inner, [1])


if __name__ == "__main__":
    unittest.main()
