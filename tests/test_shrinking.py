"""[3.2] and [0.2] Code made shorter: let in, no longer, telling the same; where jumps and tests lead; NotLetIn."""

import copy
import itertools
import random
import unittest

from netsieve.errors import NotLetIn
from netsieve.looking import is_let_in
from netsieve.machine import run, steps_of
from netsieve.shrinking import shrunk

LEN, TELLA = ("len",), ("tella",)
NO, YES = ("tell", 0), ("tell", 1)
PACKETS = ([], [0], [1], [2, 7], [7, 1, 2], [1, 2, 3, 4], [255, 0, 255, 0, 9], [3] * 200)


# Here and below written anew from the words of the document.
def ways_of(code, place):
    step = code[place]
    if step[0] in ("tell", "tella"):
        return []
    if step[0] == "jump":
        return [place + 1 + step[1]]
    if step[0] == "if":
        return [place + 1 + step[3], place + 1 + step[4]]
    if step[0] == "ifx":
        return [place + 1 + step[2], place + 1 + step[3]]
    return [place + 1]


def come_to(code):
    found = [0]
    for place in found:
        found += [goal for goal in ways_of(code, place) if goal not in found]
    return found


# What [3.2] does not allow of the code, as texts.
def faults_of(code):
    faults = [f"{place} can not be come to" for place in set(range(len(code))) - set(come_to(code))]
    for place, step in enumerate(code):
        goals = ways_of(code, place)
        ends = [code[goal][0] for goal in goals]
        if step[0] in ("jump", "if", "ifx") and "jump" in ends:
            faults.append(f"{place} leads to a jump")
        if step[0] == "jump" and ends[0] in ("tell", "tella"):
            faults.append(f"{place} is a jump to a tell")
        if step[0] in ("if", "ifx") and goals[0] == goals[1]:
            faults.append(f"{place} leads to one place both ways")
        if step == ("jump", 0):
            faults.append(f"{place} is a jump by 0")
    return faults


class Shrinking(unittest.TestCase):
    def assert_shrunk(self, code, expected=None, packets=PACKETS):
        before = copy.deepcopy(code)
        short = shrunk(code)
        self.assertEqual(code, before)
        self.assertIs(type(short), list)
        self.assertIsNot(short, code)
        self.assertTrue(is_let_in(short), f"{code} becomes {short}")
        self.assertLessEqual(len(short), len(code), f"{code} becomes {short}")
        self.assertEqual(faults_of(short), [], f"{code} becomes {short}")
        for packet in packets:
            self.assertEqual(run(short, packet), run(code, packet), f"{code} becomes {short}: {packet}")
            self.assertLessEqual(steps_of(short, packet), len(short))
        again = shrunk(short)
        self.assertEqual(again, short)
        self.assertIsNot(again, short)
        if expected is not None:
            self.assertEqual(short, expected)

    def assert_not_let_in(self, code, place):
        before = copy.deepcopy(code)
        with self.assertRaises(NotLetIn) as caught:
            shrunk(code)
        self.assertEqual(caught.exception.at, place)
        self.assertIs(type(caught.exception.at), int)
        self.assertEqual(code, before)


class StaysAsItIs(Shrinking):
    def test_code_with_nothing_to_be_made_shorter(self):
        for code in (
            [YES],
            [TELLA],
            [LEN, TELLA],
            [("setx", 3), LEN, ("tax",), ("txa",), ("keep", 0), ("fetch", 0), ("do", "plus", 1), ("dox", "times"),
             TELLA],
            [LEN, ("if", "equal", 0, 0, 1), NO, YES],
            [LEN, ("if", "above", 3, 1, 0), NO, YES],
            [LEN, ("ifx", "any", 0, 1), NO, YES],
            [LEN, ("if", "least", 3, 2, 0), ("set", 9), ("jump", 1), ("set", 7), ("do", "plus", 1), TELLA],
            [LEN, ("if", "equal", 2, 0, 1), ("set", 8), ("do", "plus", 1), TELLA],
            [("load", 1, "at", 0), ("if", "equal", 1, 0, 1), TELLA, ("if", "equal", 7, 1, 0), NO, YES],
        ):
            self.assert_shrunk(code, list(code))

    def test_two_tells_of_one_number_are_two_places(self):
        self.assert_shrunk([LEN, ("if", "equal", 0, 0, 1), YES, YES], [LEN, ("if", "equal", 0, 0, 1), YES, YES])

    def test_the_longest_code(self):
        self.assert_shrunk([LEN] * 1999 + [TELLA], [LEN] * 1999 + [TELLA], PACKETS[:3])

    def test_it_is_a_new_list(self):
        code = [LEN, TELLA]
        short = shrunk(code)
        short.append(YES)
        self.assertEqual(code, [LEN, TELLA])
        self.assertEqual(shrunk(code), [LEN, TELLA])
        code[0] = ("set", 3)
        self.assertEqual(short, [LEN, TELLA, YES])
        self.assertEqual(shrunk(code), [("set", 3), TELLA])


class NotComeTo(Shrinking):
    def test_behind_a_tell(self):
        self.assert_shrunk([YES, NO], [YES])
        self.assert_shrunk([LEN, TELLA, LEN, NO, YES], [LEN, TELLA])
        self.assert_shrunk([YES] * 2000, [YES], PACKETS[:2])

    def test_behind_a_jump(self):
        self.assert_shrunk([("jump", 2), LEN, LEN, ("set", 4), TELLA], [("set", 4), TELLA])

    def test_between_the_goals_of_a_test(self):
        self.assert_shrunk([LEN, ("if", "equal", 1, 1, 4), NO, ("set", 4), TELLA, NO, YES],
                           [LEN, ("if", "equal", 1, 0, 2), ("set", 4), TELLA, YES])

    def test_fetches_that_never_were_kept(self):
        self.assert_shrunk([YES, ("fetch", 3), TELLA], [YES])
        self.assert_shrunk([("jump", 1), ("fetch", 3), LEN, TELLA], [LEN, TELLA])

    def test_jumps_and_tests_that_can_not_be_come_to(self):
        self.assert_shrunk([LEN, ("jump", 2), ("jump", 1), ("if", "any", 1, 0, 1), ("set", 2), TELLA],
                           [LEN, ("set", 2), TELLA])
        self.assert_shrunk([("set", 2), ("tella",), ("if", "any", 1, 1, 0), ("jump", 0), YES], [("set", 2), TELLA])

    def test_only_once_a_jump_has_been_led_on(self):
        self.assert_shrunk([LEN, ("if", "equal", 0, 0, 2), ("set", 3), ("jump", 1), ("jump", 1), ("set", 4), TELLA])
        self.assert_shrunk([LEN, ("if", "equal", 0, 1, 0), TELLA, ("jump", 1), NO, YES],
                           [LEN, ("if", "equal", 0, 1, 0), TELLA, YES])

    def test_a_tell_that_only_jumps_led_to(self):
        self.assert_shrunk([LEN, ("if", "equal", 1, 0, 2), ("set", 3), ("jump", 3), ("set", 4), ("keep", 1), TELLA, NO,
                            TELLA])
        self.assert_shrunk([LEN, ("jump", 2), NO, NO, TELLA], [LEN, TELLA])


class JumpsToJumps(Shrinking):
    def test_a_row_of_them(self):
        self.assert_shrunk([("jump", 1), NO, ("jump", 1), NO, ("jump", 1), NO, LEN, TELLA], [LEN, TELLA])
        for count in (1, 2, 10, 999):
            self.assert_shrunk([("jump", 1), NO] * count + [LEN, TELLA], [LEN, TELLA], PACKETS[:3])

    def test_behind_a_step(self):
        code = [LEN, ("if", "above", 1, 0, 3), ("set", 5), ("jump", 1), NO, ("jump", 2), ("set", 6), ("jump", 0),
                ("do", "plus", 1), TELLA]
        self.assert_shrunk(code)

    def test_over_steps_that_stay(self):
        code = [LEN, ("if", "equal", 2, 0, 2), ("set", 5), ("jump", 2), ("if", "equal", 1, 0, 1), ("jump", 1),
                ("jump", 2), ("set", 6), ("jump", 0), ("do", "times", 3), TELLA]
        self.assert_shrunk(code)

    def test_two_jumps_to_one(self):
        code = [LEN, ("if", "equal", 0, 0, 2), ("set", 5), ("jump", 4), ("if", "equal", 1, 0, 2), ("set", 6),
                ("jump", 1), ("set", 7), ("jump", 1), YES, ("do", "plus", 1), TELLA]
        self.assert_shrunk(code)


class JumpsToTells(Shrinking):
    def test_as_the_first_step(self):
        for tell in (YES, NO, ("tell", 4294967295), TELLA):
            self.assert_shrunk([("jump", 1), LEN, tell], [tell])
            self.assert_shrunk([("jump", 0), tell], [tell])

    def test_over_a_step_that_stays(self):
        for tell in (YES, NO, ("tell", 77), TELLA):
            code = [LEN, ("if", "equal", 1, 0, 2), ("set", 5), ("jump", 2), ("set", 6), ("do", "plus", 2), tell]
            self.assert_shrunk(code, [LEN, ("if", "equal", 1, 0, 2), ("set", 5), tell, ("set", 6), ("do", "plus", 2),
                                      tell])

    def test_the_tell_goes_where_nothing_else_leads_to_it(self):
        code = [LEN, ("if", "equal", 1, 0, 2), ("set", 5), ("jump", 2), ("set", 6), TELLA, ("tell", 9)]
        self.assert_shrunk(code, [LEN, ("if", "equal", 1, 0, 2), ("set", 5), ("tell", 9), ("set", 6), TELLA])

    def test_the_tell_stays_where_a_test_leads_to_it(self):
        code = [LEN, ("if", "equal", 1, 0, 4), ("keep", 1), ("jump", 2), ("set", 6), TELLA, ("tell", 9)]
        self.assert_shrunk(code)
        code = [LEN, ("if", "equal", 1, 0, 4), ("if", "equal", 0, 0, 2), ("set", 5), ("jump", 1), TELLA, ("tell", 9)]
        self.assert_shrunk(code, [LEN, ("if", "equal", 1, 0, 4), ("if", "equal", 0, 0, 2), ("set", 5), ("tell", 9),
                                  TELLA, ("tell", 9)])

    def test_by_way_of_other_jumps(self):
        code = [LEN, ("if", "equal", 1, 0, 2), ("set", 5), ("jump", 1), ("set", 6), ("jump", 1), NO, ("jump", 1), YES,
                TELLA]
        self.assert_shrunk(code)


class Tests(Shrinking):
    def test_that_lead_to_jumps(self):
        for head in (("if", "equal", 1), ("if", "above", 1), ("if", "least", 1), ("if", "any", 1), ("ifx", "equal"),
                     ("ifx", "above"), ("ifx", "least"), ("ifx", "any")):
            self.assert_shrunk([("setx", 2), LEN, head + (0, 1), ("jump", 1), YES, ("tell", 2)])
            self.assert_shrunk([("setx", 2), LEN, head + (1, 0), ("jump", 1), YES, ("tell", 2)])
            self.assert_shrunk([("setx", 2), LEN, head + (0, 1), ("jump", 1), ("jump", 1), YES, ("tell", 2)])
            self.assert_shrunk([("setx", 2), LEN, head + (1, 0), ("jump", 2), ("jump", 0), YES, ("tell", 2)])

    def test_that_lead_to_rows_of_jumps(self):
        code = [LEN, ("if", "equal", 1, 0, 1), ("jump", 1), ("jump", 1), ("jump", 1), ("jump", 1), ("set", 5), TELLA]
        self.assert_shrunk(code)

    def test_whose_distances_grow(self):
        code = [LEN, ("if", "equal", 1, 0, 1), ("jump", 1), ("jump", 1996)] + [LEN] * 1994 + [("tella",), NO]
        self.assert_not_let_in(code, 3)
        code = [LEN, ("if", "equal", 1, 0, 1), ("jump", 1), ("jump", 1995)] + [LEN] * 1994 + [("tella",), NO]
        self.assert_shrunk(code, None, PACKETS[:4])

    def test_that_lead_to_one_place_both_ways(self):
        for head in (("if", "equal", 1), ("if", "any", 1), ("ifx", "least")):
            self.assert_shrunk([LEN, head + (0, 0), TELLA], [LEN, TELLA])
            self.assert_shrunk([LEN, head + (1, 1), NO, TELLA], [LEN, TELLA])
            self.assert_shrunk([head + (0, 0), TELLA], [TELLA])
            self.assert_shrunk([head + (2, 2), LEN, LEN, ("set", 3), TELLA], [("set", 3), TELLA])

    def test_only_once_jumps_have_been_led_on(self):
        self.assert_shrunk([LEN, ("if", "equal", 1, 0, 1), ("jump", 0), TELLA], [LEN, TELLA])
        self.assert_shrunk([LEN, ("if", "equal", 1, 1, 0), ("jump", 1), ("jump", 0), TELLA], [LEN, TELLA])
        self.assert_shrunk([LEN, ("if", "equal", 1, 0, 1), ("jump", 2), ("jump", 1), NO, TELLA], [LEN, TELLA])

    def test_only_once_another_test_has_gone(self):
        self.assert_shrunk([LEN, ("if", "equal", 1, 0, 1), ("if", "equal", 2, 0, 0), TELLA], [LEN, TELLA])
        self.assert_shrunk([LEN, ("if", "equal", 1, 1, 0), ("ifx", "equal", 0, 0), ("jump", 1), NO, TELLA],
                           [LEN, TELLA])
        rows = [("if", "equal", 1, 0, 1)] * 500 + [("jump", 0)]
        self.assert_shrunk([LEN] + rows + [TELLA], [LEN, TELLA], PACKETS[:3])

    def test_only_once_steps_that_can_not_be_come_to_have_gone(self):
        self.assert_shrunk([LEN, ("if", "equal", 1, 2, 0), ("jump", 1), NO, TELLA], [LEN, TELLA])

    def test_behind_which_a_jump_is_wanted(self):
        code = [LEN, ("if", "equal", 1, 0, 2), ("set", 5), ("if", "any", 1, 1, 1), ("set", 6), ("do", "plus", 1), TELLA]
        self.assert_shrunk(code, [LEN, ("if", "equal", 1, 0, 2), ("set", 5), ("jump", 1), ("set", 6), ("do", "plus", 1),
                                  TELLA])

    def test_in_whose_place_a_tell_is_wanted(self):
        code = [LEN, ("if", "equal", 1, 0, 2), ("set", 5), ("if", "any", 1, 2, 2), ("set", 6), TELLA, ("tell", 8)]
        self.assert_shrunk(code, [LEN, ("if", "equal", 1, 0, 2), ("set", 5), ("tell", 8), ("set", 6), TELLA])


class JumpsByNought(Shrinking):
    def test_as_they_stand(self):
        self.assert_shrunk([("jump", 0), LEN, ("jump", 0), ("jump", 0), TELLA], [LEN, TELLA])
        self.assert_shrunk([("jump", 0)] * 1999 + [YES], [YES], PACKETS[:2])

    def test_only_once_steps_between_have_gone(self):
        self.assert_shrunk([LEN, ("jump", 1), NO, ("do", "plus", 1), TELLA], [LEN, ("do", "plus", 1), TELLA])
        self.assert_shrunk([LEN, ("jump", 3), LEN, ("jump", 0), NO, ("do", "plus", 1), TELLA],
                           [LEN, ("do", "plus", 1), TELLA])

    def test_only_once_jumps_between_have_gone(self):
        code = [LEN, ("if", "equal", 1, 0, 2), ("set", 5), ("jump", 1), ("jump", 0), ("do", "plus", 1), TELLA]
        self.assert_shrunk(code, [LEN, ("if", "equal", 1, 0, 1), ("set", 5), ("do", "plus", 1), TELLA])

    def test_only_once_a_tell_between_has_gone(self):
        code = [LEN, ("if", "equal", 1, 0, 2), ("set", 5), ("jump", 3), ("set", 6), ("jump", 1), ("tell", 9),
                ("do", "plus", 1), TELLA]
        self.assert_shrunk(code)
        code = [LEN, ("if", "equal", 1, 0, 2), ("set", 5), ("jump", 2), ("set", 6), ("jump", 1), ("tell", 9),
                ("do", "plus", 1), TELLA]
        self.assert_shrunk(code, [LEN, ("if", "equal", 1, 0, 2), ("set", 5), ("tell", 9), ("set", 6), ("do", "plus", 1),
                                  TELLA])

    def test_to_a_tell_that_a_test_leads_to(self):
        code = [LEN, ("if", "equal", 1, 1, 0), ("jump", 0), ("jump", 1), NO, TELLA]
        self.assert_shrunk(code, [LEN, TELLA])
        code = [LEN, ("if", "equal", 1, 2, 0), ("set", 9), ("jump", 0), TELLA]
        self.assert_shrunk(code, [LEN, ("if", "equal", 1, 1, 0), ("set", 9), TELLA])


class Slots(Shrinking):
    def test_kept_on_all_ways(self):
        code = [LEN, ("if", "equal", 1, 0, 3), ("set", 5), ("keep", 3), ("jump", 3), ("set", 6), ("keep", 3),
                ("jump", 0), ("jump", 1), NO, ("len",), ("fetch", 3), TELLA]
        self.assert_shrunk(code)

    def test_kept_on_all_ways_that_can_be_come_to(self):
        code = [LEN, ("keep", 3), ("jump", 3), LEN, ("jump", 1), NO, ("fetch", 3), TELLA]
        self.assert_not_let_in([LEN, ("jump", 2), ("keep", 3), LEN, ("jump", 1), NO, ("fetch", 3), TELLA], 6)
        self.assert_shrunk(code, [LEN, ("keep", 3), ("fetch", 3), TELLA])

    def test_kept_behind_tests_that_go(self):
        code = [LEN, ("if", "equal", 1, 0, 0), ("keep", 0), ("if", "equal", 1, 1, 1), ("fetch", 7), ("set", 3),
                ("fetch", 0), TELLA]
        self.assert_shrunk(code, [LEN, ("keep", 0), ("set", 3), ("fetch", 0), TELLA])

    def test_every_slot(self):
        keeps, fetches = [], []
        for slot in range(8):
            keeps += [("do", "plus", slot), ("jump", 1), NO, ("keep", slot)]
            fetches += [("tax",), ("fetch", slot), ("dox", "times"), ("jump", 0)]
        self.assert_shrunk([LEN] + keeps + fetches + [TELLA])


class NotLetInAtAll(Shrinking):
    def test_no_steps_and_too_many(self):
        self.assert_not_let_in([], 0)
        self.assert_not_let_in([YES] * 2001, 0)
        self.assert_not_let_in([("jump", 0)] * 2000 + [YES], 0)

    def test_no_step(self):
        for thing in (None, True, False, 0, 7, 10 ** 59, "len", "", [], ["len"], (), ("nothing",), ("len", 0),
                      ("set", True), ("set", -1), ("keep", 8), ("jump", 2001), ("jump", -1), ("do", "over", 0),
                      [("len",)], (("len",),), ("tell", [1]), (["tell"], 1)):
            self.assert_not_let_in([thing], 0)
            self.assert_not_let_in([LEN, thing, TELLA], 1)
            self.assert_not_let_in([YES, LEN, thing], 2)
            self.assert_not_let_in([("jump", 1), thing, TELLA], 1)

    def test_behind_the_last_step(self):
        self.assert_not_let_in([LEN], 0)
        self.assert_not_let_in([YES, LEN], 1)
        self.assert_not_let_in([LEN, ("jump", 1), TELLA], 1)
        self.assert_not_let_in([LEN, ("if", "any", 1, 0, 2), NO, YES], 1)
        self.assert_not_let_in([LEN, YES, ("jump", 5), YES], 2)

    def test_slots(self):
        self.assert_not_let_in([LEN, ("fetch", 0), TELLA], 1)
        self.assert_not_let_in([LEN, ("if", "equal", 1, 0, 1), ("keep", 0), ("fetch", 0), TELLA], 3)

    def test_the_first_of_several(self):
        self.assert_not_let_in([LEN, None, ("fetch", 0), ("jump", 9)], 1)


def some_step(chance, ahead):
    kind = chance.randrange(16)
    most = min(ahead - 1, chance.choice((1, 2, 4)))
    if kind < 4:
        return ("jump", chance.randint(0, most))
    if kind < 6:
        return ("if", chance.choice(("equal", "above", "least", "any")), chance.randrange(4), chance.randint(0, most),
                chance.randint(0, most))
    if kind < 8:
        return ("ifx", chance.choice(("equal", "above", "least", "any")), chance.randint(0, most),
                chance.randint(0, most))
    return chance.choice((LEN, ("load", 1, "at", 0), ("load", 1, "x", 0), ("set", 3), ("setx", 1), ("tax",), ("txa",),
                          ("keep", 0), ("fetch", 0), ("do", "plus", 1), ("dox", "rest"), ("tell", 5), TELLA))


class ManyCodes(Shrinking):
    def test_every_short_code_of_some_steps(self):
        steps = (LEN, ("do", "plus", 2), ("jump", 0), ("jump", 1), ("jump", 2), ("if", "equal", 1, 0, 1),
                 ("if", "above", 1, 2, 0), ("if", "any", 1, 1, 1), TELLA, YES)
        for count in range(5):
            for head in itertools.product(steps, repeat=count):
                code = list(head) + [("tell", 7)]
                if is_let_in(code):
                    self.assert_shrunk(code, None, PACKETS[:5])

    def test_many_of_all_steps(self):
        chance = random.Random(9)
        count = 0
        for _ in range(12000):
            size = chance.randrange(2, 24)
            code = [some_step(chance, size - place) for place in range(size)] + [chance.choice((YES, TELLA))]
            if is_let_in(code):
                count += 1
                self.assert_shrunk(code)
        self.assertGreater(count, 5000)

    def test_long_ones(self):
        chance = random.Random(10)
        steps = (LEN, ("do", "plus", 1), ("do", "xor", 5), ("load", 1, "at", 0), ("tax",), ("dox", "plus"))
        for _ in range(10):
            code = []
            for place in range(1999):
                one, other = [chance.randint(0, min(3, 1998 - place)) for _ in range(2)]
                leading = (("jump", one), ("jump", other), ("if", "any", 1 + chance.randrange(9), one, other))
                code.append(chance.choice(steps + leading))
            self.assert_shrunk(code + [TELLA], None, PACKETS[1:4])


if __name__ == "__main__":
    unittest.main()
