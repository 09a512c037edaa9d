"""[1.3] What each step does; [1.4] when a step is stuck; [0.2] code that is let in comes to its end."""

import copy
import itertools
import unittest

from netsieve.errors import Stuck
from netsieve.looking import is_let_in, is_step
from netsieve.machine import run, steps_of
from netsieve.numbers import reckoned

TOP = 4294967295
HALF = 2147483648
OPS = ("plus", "minus", "times", "over", "rest", "and", "or", "xor", "left", "right")
TELL = ("tell", 1)
TELLA = ("tella",)
PACKET = [1, 2, 3, 4, 255, 254, 253, 252]
GOING_ON = (
    ("load", 1, "at", 0),
    ("load", 2, "x", 0),
    ("len",),
    ("set", 9),
    ("setx", 9),
    ("tax",),
    ("txa",),
    ("keep", 0),
    ("do", "plus", 1),
    ("dox", "plus"),
    ("jump", 0),
    ("if", "equal", 0, 0, 0),
    ("ifx", "above", 0, 0),
)


def stuck_at(function, code, packet):
    try:
        function(code, packet)
    except Stuck as error:
        return error.at
    return None


class Running(unittest.TestCase):
    # What the code tells, and in how many steps.
    def assert_told(self, code, packet, told, steps=None):
        for step in code:
            self.assertTrue(is_step(step), step)
        with self.subTest(f"{code} {packet}"):
            answer = run(code, packet)
            self.assertEqual(answer, told)
            self.assertIs(type(answer), int)
            count = steps_of(code, packet)
            self.assertEqual(count, len(code) if steps is None else steps)
            self.assertIs(type(count), int)

    def assert_stuck(self, code, packet, at):
        for step in code:
            self.assertTrue(is_step(step), step)
        with self.subTest(f"{code} {packet}"):
            self.assertEqual(stuck_at(run, code, packet), at)
            self.assertEqual(stuck_at(steps_of, code, packet), at)


class AtFirst(Running):
    def test_the_hand_is_0(self):
        self.assert_told([TELLA], [7], 0)

    def test_the_other_is_0(self):
        self.assert_told([("set", 5), ("txa",), TELLA], [7], 0)

    def test_each_run_begins_anew(self):
        code = [("do", "plus", 1), ("keep", 0), ("tax",), TELLA]
        for _ in range(3):
            self.assert_told(code, [7], 1)
        self.assert_stuck([("fetch", 0), TELLA], [7], 0)
        self.assert_told([("txa",), TELLA], [7], 0)


class Loads(Running):
    def test_each_size_at_each_place(self):
        for size in (1, 2, 4):
            for k in range(12):
                there = k + size <= len(PACKET)
                told = int.from_bytes(bytes(PACKET[k:k + size]), "big") if there else 0
                steps = 2 if there else 1
                self.assert_told([("load", size, "at", k), TELLA], PACKET, told, steps)

    def test_the_first_byte_is_the_heaviest(self):
        self.assert_told([("load", 1, "at", 0), TELLA], PACKET, 1)
        self.assert_told([("load", 2, "at", 0), TELLA], PACKET, 258)
        self.assert_told([("load", 4, "at", 0), TELLA], PACKET, 16909060)
        self.assert_told([("load", 4, "at", 4), TELLA], PACKET, 4294901244)
        self.assert_told([("load", 4, "at", 0), TELLA], [255] * 4, TOP)

    def test_each_size_at_k_and_the_other_together(self):
        for size in (1, 2, 4):
            for other in range(10):
                for k in range(10):
                    start = other + k
                    there = start + size <= len(PACKET)
                    told = int.from_bytes(bytes(PACKET[start:start + size]), "big") if there else 0
                    code = [("setx", other), ("load", size, "x", k), TELLA]
                    self.assert_told(code, PACKET, told, 3 if there else 2)

    def test_at_does_not_look_at_the_other(self):
        self.assert_told([("setx", 3), ("load", 1, "at", 1), TELLA], PACKET, 2)
        self.assert_told([("setx", TOP), ("load", 1, "at", 1), TELLA], PACKET, 2)

    def test_x_does_not_look_at_the_hand(self):
        self.assert_told([("set", 3), ("load", 1, "x", 1), TELLA], PACKET, 2)

    def test_the_sum_is_not_brought_round(self):
        for other, k in ((TOP, 1), (1, TOP), (TOP, 2), (HALF, HALF), (TOP, TOP)):
            for size in (1, 2, 4):
                self.assert_told([("setx", other), ("load", size, "x", k), TELL], PACKET, 0, 2)

    def test_beyond_the_end_it_tells_0_whatever_the_hand(self):
        for size in (1, 2, 4):
            self.assert_told([("set", 7), ("load", size, "at", 8), TELLA], PACKET, 0, 2)
            self.assert_told([("set", 7), ("load", size, "at", TOP), TELLA], PACKET, 0, 2)

    def test_a_load_that_is_cut_off_tells_0(self):
        self.assert_told([("load", 2, "at", 7), TELL], PACKET, 0, 1)
        for k in (5, 6, 7):
            self.assert_told([("load", 4, "at", k), TELL], PACKET, 0, 1)

    def test_the_last_bytes(self):
        self.assert_told([("load", 1, "at", 7), TELLA], PACKET, 252)
        self.assert_told([("load", 2, "at", 6), TELLA], PACKET, 65020)
        self.assert_told([("load", 4, "at", 196), TELLA], [0] * 196 + [0, 0, 0, 9], 9)
        self.assert_told([("load", 1, "at", 199), TELLA], [0] * 199 + [9], 9)
        self.assert_told([("load", 1, "at", 200), TELLA], [9] * 200, 0, 1)

    def test_the_empty_packet(self):
        for size in (1, 2, 4):
            self.assert_told([("load", size, "at", 0), TELL], [], 0, 1)
            self.assert_told([("load", size, "x", 0), TELL], [], 0, 1)
        self.assert_told([("len",), TELLA], [], 0)
        self.assert_told([TELL], [], 1)

    def test_a_load_leaves_the_other(self):
        self.assert_told([("setx", 5), ("load", 1, "at", 0), ("txa",), TELLA], PACKET, 5)

    def test_more_than_200_bytes_are_not_refused(self):
        self.assert_told([("load", 1, "at", 249), TELLA], [3] * 250, 3)
        self.assert_told([("len",), TELLA], [3] * 250, 250)

    def test_places_below_0_are_not_there(self):
        for k in (-1, -2, -4, -5, -8):
            for size in (1, 2, 4):
                self.assertEqual(run([("load", size, "at", k), TELL], PACKET), 0)


class HandAndOther(Running):
    def test_len(self):
        for count in (0, 1, 2, 100, 199, 200):
            self.assert_told([("len",), TELLA], [5] * count, count)
            self.assert_told([("set", 3), ("len",), TELLA], [5] * count, count)

    def test_set(self):
        for k in (0, 1, HALF, TOP):
            self.assert_told([("set", k), TELLA], [], k)
            self.assert_told([("set", 8), ("set", k), TELLA], [], k)

    def test_set_leaves_the_other(self):
        self.assert_told([("setx", 4), ("set", 8), ("txa",), TELLA], [], 4)

    def test_setx(self):
        for k in (0, 1, HALF, TOP):
            self.assert_told([("setx", k), ("txa",), TELLA], [], k)

    def test_setx_leaves_the_hand(self):
        self.assert_told([("set", 8), ("setx", 4), TELLA], [], 8)

    def test_tax(self):
        self.assert_told([("set", 8), ("tax",), ("set", 1), ("txa",), TELLA], [], 8)
        self.assert_told([("set", 8), ("tax",), TELLA], [], 8)

    def test_txa(self):
        self.assert_told([("set", 8), ("setx", 4), ("txa",), TELLA], [], 4)
        self.assert_told([("setx", 4), ("txa",), ("set", 9), ("txa",), TELLA], [], 4)

    def test_len_and_txa_leave_the_other(self):
        self.assert_told([("setx", 4), ("len",), ("txa",), ("txa",), TELLA], [1, 1], 4)


class Slots(Running):
    def test_each_slot_keeps_the_hand(self):
        for slot in range(8):
            self.assert_told([("set", 6), ("keep", slot), ("set", 1), ("fetch", slot), TELLA], [], 6)

    def test_slots_are_eight(self):
        code = []
        for slot in range(8):
            code += [("set", slot * 3 + 1), ("keep", slot)]
        for slot in range(8):
            self.assert_told(code + [("fetch", slot), TELLA], [], slot * 3 + 1)

    def test_keeping_leaves_hand_and_other(self):
        self.assert_told([("set", 6), ("setx", 7), ("keep", 0), TELLA], [], 6)
        self.assert_told([("set", 6), ("setx", 7), ("keep", 0), ("txa",), TELLA], [], 7)

    def test_fetching_leaves_other_and_slot(self):
        head = [("set", 6), ("setx", 7), ("keep", 0), ("set", 1), ("fetch", 0)]
        self.assert_told(head + [("txa",), TELLA], [], 7)
        self.assert_told(head + [("set", 2), ("fetch", 0), TELLA], [], 6)

    def test_what_is_kept_later_counts(self):
        self.assert_told([("set", 6), ("keep", 0), ("set", 5), ("keep", 0), ("set", 1), ("fetch", 0), TELLA], [], 5)

    def test_a_kept_0_is_something(self):
        self.assert_told([("keep", 0), ("set", 5), ("fetch", 0), TELLA], [], 0)


class Ops(Running):
    NUMBERS = (0, 1, 2, 7, 12, 31, 32, 33, 65536, HALF, TOP - 1, TOP)

    def test_answers_by_do(self):
        answers = (("plus", 12, 5, 17), ("minus", 12, 5, 7), ("minus", 5, 12, TOP - 6), ("times", 12, 5, 60),
                   ("over", 12, 5, 2), ("rest", 12, 5, 2), ("and", 12, 5, 4), ("or", 12, 5, 13), ("xor", 12, 5, 9),
                   ("left", 12, 5, 384), ("right", 12, 2, 3), ("plus", TOP, 1, 0), ("times", TOP, TOP, 1))
        for op, hand, k, told in answers:
            self.assert_told([("set", hand), ("do", op, k), TELLA], [], told)
            self.assert_told([("set", hand), ("setx", k), ("dox", op), TELLA], [], told)

    def test_do_by_all_numbers(self):
        for op in OPS:
            for hand, k in itertools.product(self.NUMBERS, repeat=2):
                if is_step(("do", op, k)):
                    self.assert_told([("set", hand), ("do", op, k), TELLA], [], reckoned(op, hand, k))

    def test_dox_by_all_numbers(self):
        for op in OPS:
            for hand, other in itertools.product(self.NUMBERS, repeat=2):
                if op not in ("over", "rest") or other != 0:
                    code = [("set", hand), ("setx", other), ("dox", op), TELLA]
                    self.assert_told(code, [], reckoned(op, hand, other))

    def test_dox_by_0_ends_and_tells_0(self):
        for op in ("over", "rest"):
            for hand in (0, 1, 7, TOP):
                self.assert_told([("set", hand), ("setx", 0), ("dox", op), TELL], [], 0, 3)
                self.assert_told([("set", hand), ("dox", op), TELLA], [], 0, 2)

    # No step by [1.2], but only looking refuses it.
    def test_do_by_0_ends_and_tells_0(self):
        for op in ("over", "rest"):
            self.assertEqual(run([("set", 7), ("do", op, 0), TELL], []), 0)
            self.assertEqual(steps_of([("set", 7), ("do", op, 0), TELL], []), 2)

    def test_the_other_ops_go_on_by_0(self):
        for op in OPS:
            if op not in ("over", "rest"):
                self.assert_told([("set", 7), ("do", op, 0), TELL], [], 1)
                self.assert_told([("set", 7), ("dox", op), TELL], [], 1)

    def test_they_leave_the_other(self):
        for op in OPS:
            self.assert_told([("set", 7), ("setx", 3), ("do", op, 2), ("txa",), TELLA], [], 3)
            self.assert_told([("set", 7), ("setx", 3), ("dox", op), ("txa",), TELLA], [], 3)


class GoingOn(Running):
    def test_jumps(self):
        self.assert_told([("jump", 0), ("tell", 1), ("tell", 2), ("tell", 3)], [], 1, 2)
        self.assert_told([("jump", 1), ("tell", 1), ("tell", 2), ("tell", 3)], [], 2, 2)
        self.assert_told([("jump", 2), ("tell", 1), ("tell", 2), ("tell", 3)], [], 3, 2)
        self.assert_told([("len",), ("jump", 1), ("tell", 1), ("jump", 0), ("tell", 2)], [], 2, 4)

    def test_a_jump_changes_nothing_else(self):
        self.assert_told([("set", 5), ("setx", 6), ("jump", 0), TELLA], [], 5)
        self.assert_told([("set", 5), ("setx", 6), ("jump", 0), ("txa",), TELLA], [], 6)

    def test_the_farthest_jump(self):
        self.assert_told([("jump", 2000)] + [("len",)] * 2000 + [("tell", 5)], [], 5, 2)

    # test, hand, k, whether it holds
    TESTS = (
        ("equal", 5, 5, True), ("equal", 5, 6, False), ("equal", 6, 5, False), ("equal", 0, 0, True),
        ("equal", TOP, TOP, True),
        ("above", 6, 5, True), ("above", 5, 5, False), ("above", 5, 6, False), ("above", TOP, TOP - 1, True),
        ("above", HALF, HALF - 1, True), ("above", 0, TOP, False), ("above", 0, 0, False),
        ("least", 6, 5, True), ("least", 5, 5, True), ("least", 5, 6, False), ("least", 0, 0, True),
        ("least", TOP, TOP, True), ("least", HALF, 1, True), ("least", TOP - 1, TOP, False),
        ("any", 6, 2, True), ("any", 6, 4, True), ("any", 6, 9, False), ("any", 0, TOP, False), ("any", TOP, 0, False),
        ("any", HALF, TOP, True), ("any", HALF, HALF - 1, False), ("any", 5, 5, True), ("any", 0, 0, False),
    )

    def test_if(self):
        tells = [("tell", 10), ("tell", 11), ("tell", 12)]
        for test, hand, k, holds in self.TESTS:
            for first, second in itertools.permutations(range(3), 2):
                told = 10 + (first if holds else second)
                self.assert_told([("set", hand), ("if", test, k, first, second)] + tells, [], told, 3)

    def test_ifx(self):
        tells = [("tell", 10), ("tell", 11), ("tell", 12)]
        for test, hand, other, holds in self.TESTS:
            for first, second in itertools.permutations(range(3), 2):
                told = 10 + (first if holds else second)
                code = [("set", hand), ("setx", other), ("ifx", test, first, second)] + tells
                self.assert_told(code, [], told, 4)

    def test_if_does_not_look_at_the_other(self):
        self.assert_told([("set", 5), ("setx", 9), ("if", "equal", 5, 0, 1), ("tell", 1), ("tell", 2)], [], 1, 4)

    def test_tests_change_nothing_else(self):
        for test in ("equal", "above", "least", "any"):
            for asked in (("if", test, 6, 0, 0), ("ifx", test, 0, 0)):
                self.assert_told([("set", 5), ("setx", 6), asked, TELLA], [], 5)
                self.assert_told([("set", 5), ("setx", 6), asked, ("txa",), TELLA], [], 6)

    def test_tell(self):
        for k in (0, 1, HALF, TOP):
            self.assert_told([("set", 9), ("tell", k), ("tell", 5)], [], k, 2)

    def test_tella(self):
        for k in (0, 1, HALF, TOP):
            self.assert_told([("set", k), TELLA, ("tell", 5)], [], k, 2)

    def test_a_small_filter(self):
        code = [("load", 2, "at", 0), ("if", "equal", 2048, 0, 5), ("load", 1, "at", 2), ("do", "and", 15),
                ("do", "times", 4), ("tax",), ("load", 1, "x", 2), ("tella",)]
        self.assert_told(code, [8, 0, 65, 1, 2, 3, 77], 77)
        self.assert_told(code, [8, 0, 66, 1, 2, 3, 77], 0, 7)
        self.assert_told(code, [8, 1, 66, 1, 2, 3, 77], 2049, 3)
        self.assert_told(code, [8], 0, 1)


class IsStuck(Running):
    def test_no_code(self):
        self.assert_stuck([], [], 0)
        self.assert_stuck([], [1, 2], 0)

    def test_behind_the_last_step(self):
        for step in GOING_ON:
            self.assert_stuck([step], PACKET, 1)
            self.assert_stuck([("len",), step], [1] * 10, 2)
        self.assert_stuck([("keep", 3), ("fetch", 3)], PACKET, 2)

    def test_the_place_that_a_jump_leads_to(self):
        self.assert_stuck([("jump", 1), TELL], [], 2)
        self.assert_stuck([("jump", 5), TELL], [], 6)
        self.assert_stuck([("len",), ("jump", 2000), TELL], [], 2002)

    def test_the_place_that_a_test_leads_to(self):
        self.assert_stuck([("if", "equal", 0, 7, 0), TELL], [], 8)
        self.assert_stuck([("if", "equal", 1, 0, 7), TELL], [], 8)
        self.assert_stuck([("ifx", "equal", 7, 0), TELL], [], 8)
        self.assert_stuck([("ifx", "above", 0, 7), TELL], [], 8)

    def test_only_the_way_that_is_gone_counts(self):
        self.assert_told([("if", "equal", 0, 0, 7), TELL], [], 1)
        self.assert_told([("if", "equal", 1, 7, 0), TELL], [], 1)
        self.assert_told([("ifx", "equal", 0, 7), TELL], [], 1)
        self.assert_told([TELL, ("jump", 9)], [], 1, 1)

    def test_code_that_ended_is_not_stuck(self):
        self.assert_told([("load", 1, "at", 3)], [1, 2, 3], 0)
        self.assert_told([("dox", "over")], [], 0)
        self.assert_told([("dox", "rest")], [], 0)

    def test_a_slot_with_nothing_in_it(self):
        for slot in range(8):
            self.assert_stuck([("fetch", slot), TELL], [], 0)
            self.assert_stuck([("len",), ("fetch", slot), TELL], [], 1)

    def test_another_slot_was_kept(self):
        for kept, fetched in itertools.permutations(range(8), 2):
            self.assert_stuck([("keep", kept), ("fetch", fetched), TELL], [], 1)

    def test_kept_only_on_the_way_that_was_not_gone(self):
        code = [("len",), ("if", "equal", 0, 0, 1), ("keep", 3), ("fetch", 3), TELL]
        self.assert_told(code, [], 1)
        self.assert_stuck(code, [1], 3)

    def test_a_fetch_that_is_not_come_to(self):
        self.assert_told([("jump", 1), ("fetch", 0), TELL], [], 1, 2)

    def test_a_fetch_is_stuck_ahead_of_the_end(self):
        self.assert_stuck([("fetch", 0)], [], 0)


def each_short_code(steps, most):
    for count in range(1, most + 1):
        for code in itertools.product(steps, repeat=count):
            yield list(code)


class LetIn(unittest.TestCase):
    PACKETS = ([], [0], [1], [2, 0], [0, 1, 2, 3], [255] * 200)

    def test_short_code_that_is_let_in_comes_to_its_end(self):
        steps = (("load", 1, "x", 1), ("len",), ("tax",), ("keep", 0), ("fetch", 0), ("dox", "over"), ("jump", 1),
                 ("if", "equal", 0, 0, 1), ("ifx", "above", 2, 0), TELL, TELLA)
        count = 0
        for code in each_short_code(steps, 4):
            if is_let_in(code):
                count += 1
                for packet in self.PACKETS:
                    self.assertTrue(0 <= run(code, packet) <= TOP, code)
                    self.assertTrue(1 <= steps_of(code, packet) <= len(code), code)
        self.assertGreater(count, 1000)

    def test_short_code_that_is_stuck_is_not_let_in(self):
        steps = (("len",), ("keep", 1), ("fetch", 1), ("jump", 0), ("jump", 1), ("if", "equal", 0, 0, 2), TELL)
        count = 0
        for code in each_short_code(steps, 4):
            places = [stuck_at(run, code, packet) for packet in self.PACKETS]
            if places != [None] * len(places):
                count += 1
                self.assertFalse(is_let_in(code), code)
        self.assertGreater(count, 1000)

    def test_as_many_steps_as_there_are(self):
        code = [("do", "plus", 1)] * 1999 + [TELLA]
        self.assertTrue(is_let_in(code))
        for packet in self.PACKETS:
            self.assertEqual(run(code, packet), 1999)
            self.assertEqual(steps_of(code, packet), 2000)

    def test_more_than_2000_steps_are_run(self):
        code = [("do", "plus", 1)] * 2500 + [TELLA]
        self.assertEqual(run(code, []), 2500)
        self.assertEqual(steps_of(code, []), 2501)

    def test_code_and_packet_stay_as_they_were(self):
        codes = ([("load", 4, "at", 0), ("keep", 0), ("fetch", 0), TELLA], [("load", 1, "at", 0), ("tax",), TELLA],
                 [("len",), ("if", "above", 1, 0, 1), ("tell", 5), TELLA], [("fetch", 0)], [("jump", 4)], [])
        for code, packet in itertools.product(codes, self.PACKETS):
            code_before, packet_before = copy.deepcopy(code), list(packet)
            first = stuck_at(run, code, packet)
            self.assertEqual(stuck_at(steps_of, code, packet), first)
            self.assertEqual((code, packet), (code_before, packet_before))

    def test_nothing_is_kept_of_them(self):
        code, packet = [("load", 1, "at", 0), TELLA], [5]
        self.assertEqual(run(code, packet), 5)
        packet[0] = 6
        self.assertEqual(run(code, packet), 6)
        code.insert(1, ("do", "plus", 1))
        self.assertEqual(run(code, packet), 7)
        self.assertEqual(steps_of(code, packet), 3)


if __name__ == "__main__":
    unittest.main()
