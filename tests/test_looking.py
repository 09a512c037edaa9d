"""[1.5] When code is let in, and which place NotLetIn tells; [0.1] what is handed in stays as it was."""

import copy
import itertools
import unittest

from netsieve.errors import NotLetIn
from netsieve.looking import is_let_in, is_step, look

TELL = ("tell", 1)
LEN = ("len",)
GOING_ON = (
    ("load", 1, "at", 0),
    ("load", 4, "x", 0),
    ("len",),
    ("set", 0),
    ("setx", 0),
    ("tax",),
    ("txa",),
    ("keep", 0),
    ("do", "plus", 1),
    ("dox", "over"),
    ("jump", 0),
    ("if", "equal", 0, 0, 0),
    ("ifx", "equal", 0, 0),
)
NO_STEPS = (None, True, False, 0, 7, "len", "", [], ["len"], (), ("nothing",), ("len", 0), ("set", True), ("set", -1),
            ("keep", 8), ("jump", 2001), ("do", "over", 0), ("do", "left", 32), [("len",)], (("len",),))


def told_place(code):
    try:
        answer = look(code)
    except NotLetIn as error:
        return error.at
    if answer is not None:
        raise AssertionError("look tells None")
    return None


# Written anew from the words of the document: every single way is walked from the first step on.
def next_places(code, place):
    step = code[place]
    if step[0] in ("tell", "tella"):
        return []
    if step[0] == "jump":
        return [place + 1 + step[1]]
    if step[0] == "if":
        return [place + 1 + step[3], place + 1 + step[4]]
    if step[0] == "ifx":
        return [place + 1 + step[2], place + 1 + step[3]]
    return [place + 1]


def ways_to(code, goal, way=(0,)):
    if way[-1] == goal:
        return [way]
    if way[-1] > goal or not is_step(code[way[-1]]):
        return []
    found = []
    for place in next_places(code, way[-1]):
        found += ways_to(code, goal, way + (place,))
    return found


def place_is_right(code, place):
    if not is_step(code[place]):
        return False
    if any(after >= len(code) for after in next_places(code, place)):
        return False
    if code[place][0] != "fetch":
        return True
    keeping = ("keep", code[place][1])
    return all(keeping in [code[passed] for passed in way[:-1]] for way in ways_to(code, place))


def expected_place(code):
    for place in range(len(code)):
        if not place_is_right(code, place):
            return place
    return None if code else 0


class Looking(unittest.TestCase):
    def assert_let_in(self, code):
        self.assertIsNone(told_place(code))
        self.assertIs(is_let_in(code), True)

    def assert_not_let_in(self, code, place):
        told = told_place(code)
        self.assertEqual(told, place)
        self.assertIs(type(told), int)
        self.assertIs(is_let_in(code), False)


class HowManySteps(Looking):
    def test_no_steps(self):
        self.assert_not_let_in([], 0)

    def test_one_step(self):
        self.assert_let_in([TELL])
        self.assert_let_in([("tella",)])

    def test_2000_steps(self):
        self.assert_let_in([LEN] * 1999 + [TELL])
        self.assert_let_in([TELL] * 2000)

    def test_2001_steps(self):
        self.assert_not_let_in([LEN] * 2000 + [TELL], 0)
        self.assert_not_let_in([TELL] * 2001, 0)

    def test_far_too_many_steps(self):
        self.assert_not_let_in([TELL] * 5000, 0)

    def test_too_many_tells_0_whatever_else_is_wrong(self):
        self.assert_not_let_in([TELL] * 5 + [None] + [TELL] * 1995, 0)
        self.assert_not_let_in([TELL] * 2000 + [LEN], 0)


class NoStep(Looking):
    def test_at_the_first_place(self):
        for thing in NO_STEPS:
            with self.subTest(repr(thing)):
                self.assert_not_let_in([thing], 0)
                self.assert_not_let_in([thing, TELL], 0)

    def test_in_the_midst_and_at_the_end(self):
        for thing in NO_STEPS:
            with self.subTest(repr(thing)):
                self.assert_not_let_in([LEN, thing, TELL], 1)
                self.assert_not_let_in([LEN, LEN, thing], 2)

    def test_where_it_can_not_be_come_to(self):
        for thing in NO_STEPS:
            with self.subTest(repr(thing)):
                self.assert_not_let_in([TELL, thing], 1)
                self.assert_not_let_in([TELL, TELL, thing, TELL], 2)
                self.assert_not_let_in([("jump", 1), thing, TELL], 1)
                self.assert_not_let_in([("if", "any", 0, 1, 2), thing, TELL, TELL], 1)

    def test_at_the_last_of_2000_places(self):
        self.assert_not_let_in([TELL] * 1999 + [None], 1999)


class BehindTheLast(Looking):
    def test_each_step_that_goes_on_as_the_last_one(self):
        for step in GOING_ON:
            with self.subTest(repr(step)):
                self.assert_not_let_in([step], 0)
                self.assert_not_let_in([LEN, step], 1)
                self.assert_let_in([step, TELL])

    def test_a_fetch_as_the_last_one(self):
        self.assert_not_let_in([("keep", 0), ("fetch", 0)], 1)
        self.assert_let_in([("keep", 0), ("fetch", 0), TELL])

    def test_each_step_that_goes_on_where_it_can_not_be_come_to(self):
        for step in GOING_ON + (("fetch", 0),):
            with self.subTest(repr(step)):
                self.assert_not_let_in([TELL, step], 1)
                self.assert_let_in([TELL, step, TELL])

    def test_tells_go_nowhere(self):
        for last in (("tell", 0), ("tell", 4294967295), ("tella",)):
            with self.subTest(repr(last)):
                self.assert_let_in([last])
                self.assert_let_in([LEN, last])
                self.assert_let_in([TELL, last])

    def test_jumps_to_the_last_and_behind_it(self):
        self.assert_let_in([("jump", 0), TELL])
        self.assert_not_let_in([("jump", 1), TELL], 0)
        self.assert_let_in([("jump", 1), LEN, TELL])
        self.assert_not_let_in([("jump", 2), LEN, TELL], 0)
        self.assert_not_let_in([LEN, ("jump", 2000), TELL], 1)

    def test_the_farthest_jump_within_2000_steps(self):
        self.assert_let_in([("jump", 1998)] + [LEN] * 1998 + [TELL])
        self.assert_not_let_in([("jump", 1999)] + [LEN] * 1998 + [TELL], 0)
        self.assert_not_let_in([("jump", 2000)] + [LEN] * 1998 + [TELL], 0)

    def test_tests_behind_the_last_by_either_way(self):
        for head in (("if", "equal", 0), ("if", "least", 0), ("if", "any", 0), ("ifx", "above")):
            with self.subTest(repr(head)):
                self.assert_let_in([head + (0, 0), TELL])
                self.assert_let_in([head + (0, 1), TELL, TELL])
                self.assert_let_in([head + (1, 0), TELL, TELL])
                self.assert_not_let_in([head + (0, 2), TELL, TELL], 0)
                self.assert_not_let_in([head + (2, 0), TELL, TELL], 0)
                self.assert_not_let_in([LEN, head + (2, 2), TELL, TELL], 1)

    def test_from_a_place_that_can_not_be_come_to(self):
        for step in (("jump", 1), ("if", "any", 0, 1, 0), ("if", "any", 0, 0, 1), ("ifx", "any", 1, 0),
                     ("ifx", "any", 0, 1)):
            with self.subTest(repr(step)):
                self.assert_not_let_in([TELL, step, TELL], 1)
                self.assert_let_in([TELL, step, TELL, TELL])


class Slots(Looking):
    def test_kept_ahead(self):
        for slot in range(8):
            with self.subTest(slot):
                self.assert_let_in([("keep", slot), ("fetch", slot), TELL])
                self.assert_let_in([("keep", slot), LEN, ("fetch", slot), ("fetch", slot), TELL])

    def test_never_kept(self):
        for slot in range(8):
            with self.subTest(slot):
                self.assert_not_let_in([("fetch", slot), TELL], 0)
                self.assert_not_let_in([LEN, ("fetch", slot), TELL], 1)

    def test_another_slot_kept(self):
        for kept, fetched in itertools.permutations(range(8), 2):
            with self.subTest(f"{kept} {fetched}"):
                self.assert_not_let_in([("keep", kept), ("fetch", fetched), TELL], 1)

    def test_several_slots_kept(self):
        keeps = [("keep", slot) for slot in range(8)]
        fetches = [("fetch", slot) for slot in range(8)]
        self.assert_let_in(keeps + fetches + [TELL])
        for slot in range(8):
            with self.subTest(slot):
                fewer = keeps[:slot] + keeps[slot + 1:]
                self.assert_not_let_in(fewer + fetches + [TELL], 7 + slot)

    def test_kept_only_behind(self):
        self.assert_not_let_in([("fetch", 0), ("keep", 0), TELL], 0)

    def test_a_fetch_keeps_nothing(self):
        self.assert_not_let_in([("keep", 1), ("fetch", 1), ("fetch", 2), TELL], 2)

    def test_kept_on_both_ways(self):
        self.assert_let_in([("if", "equal", 0, 0, 2), ("keep", 3), ("jump", 1), ("keep", 3), ("fetch", 3), TELL])
        self.assert_let_in([("ifx", "equal", 2, 0), ("keep", 3), ("jump", 1), ("keep", 3), ("fetch", 3), TELL])

    def test_kept_on_one_way_only(self):
        self.assert_not_let_in([("if", "equal", 0, 0, 1), ("keep", 3), ("fetch", 3), TELL], 2)
        self.assert_not_let_in([("if", "equal", 0, 1, 0), ("keep", 3), ("fetch", 3), TELL], 2)
        self.assert_not_let_in([("ifx", "equal", 0, 1), ("keep", 3), ("fetch", 3), TELL], 2)
        self.assert_not_let_in([("ifx", "equal", 1, 0), ("keep", 3), ("fetch", 3), TELL], 2)

    def test_other_slots_on_either_way(self):
        self.assert_not_let_in([("if", "equal", 0, 0, 2), ("keep", 3), ("jump", 1), ("keep", 4), ("fetch", 3), TELL], 4)
        self.assert_not_let_in([("if", "equal", 0, 0, 2), ("keep", 3), ("jump", 1), ("keep", 4), ("fetch", 4), TELL], 4)

    def test_the_way_without_keeping_ends_ahead(self):
        self.assert_let_in([("if", "equal", 0, 1, 0), TELL, ("keep", 3), ("fetch", 3), TELL])

    def test_kept_where_ways_have_met(self):
        self.assert_let_in([("if", "equal", 0, 0, 1), LEN, ("keep", 3), ("fetch", 3), TELL])

    def test_kept_before_ways_part(self):
        self.assert_let_in([("keep", 3), ("if", "equal", 0, 0, 1), ("keep", 4), ("fetch", 3), TELL])

    def test_a_fetch_on_the_way_that_keeps(self):
        self.assert_let_in([("if", "equal", 0, 0, 2), ("keep", 3), ("fetch", 3), TELL])

    def test_ways_count_whatever_the_numbers(self):
        self.assert_not_let_in([("if", "least", 0, 0, 1), ("keep", 3), ("fetch", 3), TELL], 2)
        self.assert_not_let_in([("if", "any", 0, 1, 0), ("keep", 3), ("fetch", 3), TELL], 2)
        self.assert_not_let_in([("setx", 0), ("dox", "over"), ("fetch", 3), TELL], 2)

    def test_a_jump_passes_the_keeping(self):
        self.assert_not_let_in([("jump", 1), ("keep", 3), ("fetch", 3), TELL], 2)

    def test_a_way_from_an_unreached_place_does_not_count(self):
        self.assert_let_in([("keep", 3), ("jump", 1), ("jump", 0), ("fetch", 3), TELL])
        self.assert_let_in([("jump", 1), ("jump", 1), ("keep", 3), ("fetch", 3), TELL])

    def test_keeping_at_an_unreached_place_does_not_count(self):
        self.assert_not_let_in([("if", "equal", 0, 1, 1), ("keep", 3), ("fetch", 3), TELL], 2)

    def test_a_fetch_that_can_not_be_come_to(self):
        self.assert_let_in([TELL, ("fetch", 0), TELL])
        self.assert_let_in([("jump", 1), ("fetch", 0), TELL])
        self.assert_let_in([("if", "any", 0, 1, 2), ("fetch", 0), TELL, TELL])
        self.assert_let_in([TELL, ("jump", 0), ("fetch", 0), TELL])

    def test_three_ways_meet(self):
        ways = [("if", "equal", 1, 0, 2), ("keep", 5), ("jump", 4), ("if", "equal", 2, 0, 2), ("keep", 5), ("jump", 1)]
        self.assert_let_in(ways + [("keep", 5), ("fetch", 5), TELL])
        self.assert_not_let_in(ways + [("keep", 6), ("fetch", 5), TELL], 7)

    def test_very_many_ways(self):
        parting = [("if", "equal", 0, 0, 1), LEN] * 900
        self.assert_let_in([("keep", 0)] + parting + [("fetch", 0), TELL])
        self.assert_not_let_in(parting + [("fetch", 0), TELL], 1800)


class WhichPlace(Looking):
    def test_the_first_of_several(self):
        self.assert_not_let_in([LEN, None, ("fetch", 0), ("jump", 9)], 1)
        self.assert_not_let_in([LEN, ("fetch", 0), None, ("jump", 9)], 1)
        self.assert_not_let_in([LEN, ("jump", 9), None, ("fetch", 0)], 1)
        self.assert_not_let_in([("fetch", 0), ("jump", 9), None], 0)
        self.assert_not_let_in([TELL, ("jump", 9), None, LEN], 1)
        self.assert_not_let_in([TELL, ("fetch", 0), None, LEN], 2)

    def test_the_last_step_alone_is_wrong(self):
        self.assert_not_let_in([LEN, LEN, LEN], 2)

    def test_a_way_behind_comes_before_a_later_place(self):
        self.assert_not_let_in([("if", "equal", 0, 0, 7), ("fetch", 0), LEN], 0)

    def test_every_short_code_of_some_things(self):
        things = (("keep", 0), ("fetch", 0), ("jump", 1), ("if", "equal", 0, 0, 1), ("ifx", "any", 2, 0), TELL, None)
        for count in range(6):
            for code in itertools.product(things, repeat=count):
                code = list(code)
                expected = expected_place(code)
                if told_place(code) != expected or is_let_in(code) != (expected is None):
                    self.fail(f"{code} is told at {told_place(code)}, not at {expected}")


class HandedIn(Looking):
    def test_the_list_stays_as_it_was(self):
        codes = (
            [],
            [TELL],
            [("keep", 0), ("if", "equal", 0, 0, 1), ("fetch", 0), TELL],
            [LEN, ["len"], None, [("len",), [1, 2]], ("set", [1])],
            [("fetch", 0), TELL],
        )
        for code in codes:
            with self.subTest(repr(code)):
                before = copy.deepcopy(code)
                told_place(code)
                self.assertEqual(code, before)
                is_let_in(code)
                self.assertEqual(code, before)

    def test_nothing_is_kept(self):
        code = [("keep", 0), ("fetch", 0), TELL]
        self.assert_let_in(code)
        code[0] = LEN
        self.assert_not_let_in(code, 1)
        code[0] = ("keep", 0)
        self.assert_let_in(code)


if __name__ == "__main__":
    unittest.main()
