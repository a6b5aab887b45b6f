"""The call itself: what is handed in, what is answered, and -2 ahead of all else."""

import unittest

from condwords.machine import arm_step
from tests.support import (
    MODES, N, PC, STATUS, SVC, WORD, make_state, mul, single, sum_by_number, swp, word_pokes,
)

MOVE_ONE = sum_by_number(13, 0, 0, 0, 1)


class Answers(unittest.TestCase):
    def test_length_and_order(self):
        state = make_state(SVC, N)
        answered = arm_step(state, word_pokes(PC, 0xE1A00000), [PC + 3, PC, PC + 2])
        expected = list(state)
        expected[15] = PC + 4
        self.assertEqual(answered, [0] + expected + [0xE1, 0x00, 0xA0])
        self.assertEqual(len(answered), 43)

    def test_whole_numbers_alone(self):
        state = make_state()
        words = (0xE1A00000, 0xE0910002, 0xE0110392, 0xE0D10392, 0xE1510002, 0xEF000000, 0xEE000000, 0xE10F0000)
        for word in words:
            answered = arm_step(state, word_pokes(PC, word), [0, PC])
            self.assertIs(type(answered), list)
            self.assertEqual([number for number in answered if type(number) is not int], [])
            self.assertEqual([number for number in answered if not 0 <= number <= WORD], [])
        for refused in (arm_step(state, word_pokes(PC, WORD), [1]), arm_step(make_state(0), [], [1])):
            self.assertIs(type(refused), list)
            self.assertIs(type(refused[0]), int)

    def test_empty_lists(self):
        state = make_state()
        expected = list(state)
        expected[15] = PC + 4
        self.assertEqual(arm_step(state, [], []), [0] + expected)

    def test_the_longest_lists(self):
        state = make_state()
        pokes = []
        for k in range(24496):
            pokes += [0x40000 + k, k % 251]
        pokes += word_pokes(PC, MOVE_ONE)
        looks = [0x40000 + k for k in range(48999)] + [PC]
        self.assertEqual((len(pokes), len(looks)), (49000, 49000))
        answered = arm_step(state, pokes, looks)
        self.assertEqual(len(answered), 49040)
        self.assertEqual(answered[1], 1)
        self.assertEqual(answered[40:40 + 24496], [k % 251 for k in range(24496)])
        self.assertEqual(answered[40 + 24496:-1], [0] * (48999 - 24496))
        self.assertEqual(answered[-1], 1)

    def test_the_later_poke_counts(self):
        state = make_state()
        pokes = [0x100, 1, 0x100, 2, 0x101, 7] + word_pokes(PC, WORD) + word_pokes(PC, MOVE_ONE) + [0x100, 3, 0x101, 0]
        answered = arm_step(state, pokes, [0x100, 0x101])
        self.assertEqual(answered[:2], [0, 1])
        self.assertEqual(answered[40:], [3, 0])

    def test_looks_at_places_never_poked(self):
        answered = arm_step(make_state(), word_pokes(PC, MOVE_ONE), [0, 1048575, 5, PC - 1, PC + 4])
        self.assertEqual(answered[40:], [0, 0, 0, 0, 0])

    def test_a_look_asked_again(self):
        answered = arm_step(make_state(), [9, 200] + word_pokes(PC, MOVE_ONE), [9, 9, 8, 9])
        self.assertEqual(answered[40:], [200, 200, 0, 200])

    def test_the_first_and_last_place(self):
        answered = arm_step(make_state(), [0, 255, 1048575, 254] + word_pokes(PC, MOVE_ONE), [0, 1048575])
        self.assertEqual(answered[40:], [255, 254])

    def test_looks_see_memory_behind_the_step(self):
        state = make_state(regs=[(0, 0x04030201), (1, 0x4000)])
        looks = [0x4003, 0x4002, 0x4001, 0x4000, 0x4004, 0x3FFF]
        pokes = [0x4000, 99, 0x4004, 98, 0x3FFF, 97] + word_pokes(PC, single(0, 0, 1))
        self.assertEqual(arm_step(state, pokes, looks)[40:], [4, 3, 2, 1, 98, 97])

    def test_the_largest_numbers(self):
        state = [WORD] * 39
        state[15] = WORD - 3
        answered = arm_step(state, [], [])
        self.assertEqual(answered, [0] + [WORD] * 15 + [0] + [WORD] * 17 + [0xF00000DF] * 6)

    def test_the_least_numbers(self):
        state = [0] * 39
        state[STATUS] = 0x10
        self.assertEqual(arm_step(state, [], []), [0] + [0] * 15 + [4] + [0] * 17 + [0x10] + [0] * 5)


class Refusals(unittest.TestCase):
    def test_they_stand_alone(self):
        state = make_state()
        self.assertEqual(arm_step(state, word_pokes(PC, WORD), [0, 1, 2]), [-1])
        self.assertEqual(arm_step(make_state(0x14), word_pokes(PC, MOVE_ONE), [0, 1, 2]), [-2])

    def test_the_mode_is_none(self):
        for mode in range(32):
            answered = arm_step(make_state(mode), word_pokes(PC, MOVE_ONE), [])
            self.assertEqual(answered[0], 0 if mode in MODES else -2, mode)

    def test_r15_is_no_multiple_of_4(self):
        for low in range(4):
            for upper in (0, PC, 0xFFFFC, 0xFFFFFFFC):
                answered = arm_step(make_state(pc=upper + low), word_pokes(upper & 0xFFFFF, MOVE_ONE), [])
                self.assertEqual(answered[0], 0 if low == 0 else -2)
                self.assertEqual(len(answered), 40 if low == 0 else 1)

    def test_ahead_of_what_is_left_unsaid(self):
        for word in (WORD, mul(1, 1, 2), swp(1, 2, 1)):
            self.assertEqual(arm_step(make_state(), word_pokes(PC, word), []), [-1])
            self.assertEqual(arm_step(make_state(0), word_pokes(PC, word), []), [-2])
            self.assertEqual(arm_step(make_state(pc=PC + 2), word_pokes(PC, word), []), [-2])
            self.assertEqual(arm_step(make_state(0, pc=PC + 1), word_pokes(PC, word), []), [-2])

    def test_ahead_of_a_condition_that_does_not_hold(self):
        pokes = word_pokes(PC, 0x03A00001)
        self.assertEqual(arm_step(make_state(), pokes, [])[0], 0)
        self.assertEqual(arm_step(make_state(0), pokes, []), [-2])
        self.assertEqual(arm_step(make_state(pc=PC + 1), pokes, []), [-2])


class HandedIn(unittest.TestCase):
    def test_it_stays_as_it_was(self):
        words = (0xE1A00000, 0xEF000000, 0xEE000000, WORD, single(0, 0, 1), 0xE8A1FFFD, 0xE129F002, swp(0, 2, 1))
        for word in words:
            for mode in (0, 0x11, SVC, 0x1F):
                state = make_state(mode, 0x0FFFFF20, regs=[(1, 0x4000), (2, 0x11)])
                pokes = [0x4000, 1, 0x4000, 2] + word_pokes(PC, word)
                looks = [0x4000, PC]
                kept = (list(state), list(pokes), list(looks))
                arm_step(state, pokes, looks)
                self.assertEqual((state, pokes, looks), kept)

    def test_what_is_answered_is_new(self):
        state = make_state()
        answered = arm_step(state, [], [])
        answered[1] = 5
        self.assertNotEqual(state[0], 5)

    def test_nothing_is_kept(self):
        state = make_state(regs=[(0, 0x04030201), (1, 0x4000)])
        store = word_pokes(PC, single(0, 0, 1))
        first = arm_step(state, store, [0x4000])
        self.assertEqual(first[40:], [1])
        self.assertEqual(arm_step(state, word_pokes(PC, MOVE_ONE), [0x4000])[40:], [0])
        self.assertEqual(arm_step(state, store, [0x4000]), first)

    def test_lists_of_their_own_each_time(self):
        state = make_state()
        self.assertIsNot(arm_step(state, [], []), arm_step(state, [], []))
