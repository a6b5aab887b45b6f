"""arm_interrupt: fast ones and others, let in or kept out."""

import unittest

from condwords.machine import arm_interrupt, arm_run, arm_step
from tests.support import (
    ABT, ADD, BANK, C, F, FIQ, HIGH, I, IRQ, MODES, N, PC, SAVED, STATUS, STATUS_BITS, SUB, SVC, SYSTEM, UND, USER, V,
    WORD, Z, cleaned, make_state, moves, mul, program_pokes, sum_by_number, word_pokes,
)

FAST = (1, 2, 4294967295)
EACH = (0,) + FAST
OTHER_BITS = WORD ^ STATUS_BITS
UNSAID = WORD
RETURN = sum_by_number(SUB, 1, 14, 15, 4)


def entered_by(fast):
    return FIQ if fast else IRQ


def place_of(fast):
    return 0x1C if fast else 0x18


def other_keeper(fast):
    """The bit that keeps out the other sort of interrupts alone."""
    return I if fast else F


def let_in(fast, state):
    """The state behind an interrupt that is let in."""
    old = state[STATUS] & STATUS_BITS
    new = entered_by(fast)
    expected = cleaned(state)
    for k, value in moves(state, old & 31, new).items():
        expected[k] = value
    expected[14] = (state[15] + 4) & WORD
    expected[15] = place_of(fast)
    expected[STATUS] = (old & ~31) | new | (I | F if fast else I)
    expected[SAVED[new]] = old
    return expected


def numbered_state(mode, bits=0, pc=PC):
    """A state whose registers, high and banks hold their own places in it, so that moves are easy to see."""
    return list(range(15)) + [pc] + list(range(16, 33)) + [mode | bits] + [USER | k << 28 for k in range(1, 6)]


class InterruptCase(unittest.TestCase):
    def assert_let_in(self, fast, state, expected, pokes=(), looks=(), seen=()):
        answered = arm_interrupt(fast, state, list(pokes), list(looks))
        shown = [hex(number) for number in answered[:40]]
        self.assertEqual(shown, [hex(number) for number in [1] + expected], (fast, hex(state[STATUS])))
        self.assertEqual(answered[40:], list(seen))

    def assert_changes(self, fast, state, changes):
        """It is let in and changes just this."""
        expected = cleaned(state)
        for k, value in changes.items():
            expected[k] = value
        self.assert_let_in(fast, state, expected)


class LetIn(InterruptCase):
    def test_out_of_each_mode(self):
        for fast in EACH:
            for mode in MODES:
                for bits in (0, N | C, Z | V, N | Z | C | V):
                    for kept in (0, other_keeper(fast)):
                        state = make_state(mode, bits | kept)
                        self.assert_let_in(fast, state, let_in(fast, state), [5, 77], [5, 6], [77, 0])

    def test_each_of_n_z_c_v(self):
        for fast in EACH:
            for told in (N, Z, C, V):
                answered = arm_interrupt(fast, make_state(SVC, told), [], [])
                self.assertEqual(answered[1 + STATUS] & 0xF0000000, told)
                self.assertEqual(answered[1 + SAVED[entered_by(fast)]], told | SVC)

    def test_i_is_set_by_each_and_f_by_a_fast_one_alone(self):
        self.assertEqual(arm_interrupt(0, make_state(USER), [], [])[1 + STATUS], IRQ | I)
        self.assertEqual(arm_interrupt(0, make_state(USER, F), [], [])[1 + STATUS], IRQ | I | F)
        for fast in FAST:
            self.assertEqual(arm_interrupt(fast, make_state(USER), [], [])[1 + STATUS], FIQ | I | F)
            self.assertEqual(arm_interrupt(fast, make_state(USER, I), [], [])[1 + STATUS], FIQ | I | F)

    def test_what_fast_may_be(self):
        state = make_state(SVC)
        slow = arm_interrupt(0, state, [], [])
        for fast in (1, 2, 3, 255, 256, 65536, 1 << 31, 4294967294, 4294967295):
            self.assertEqual(arm_interrupt(fast, state, [], []), arm_interrupt(1, state, [], []))
            self.assertNotEqual(arm_interrupt(fast, state, [], []), slow)

    def test_r14_is_four_beyond(self):
        places = (
            (0, 4), (4, 8), (0x18, 0x1C), (0x1C, 0x20), (0xFFFFC, 0x100000), (0x7FFFFFFC, 0x80000000),
            (4294967288, 4294967292), (4294967292, 0))
        for fast in EACH:
            for mode in MODES:
                for pc, back in places:
                    answered = arm_interrupt(fast, make_state(mode, pc=pc), [], [])
                    self.assertEqual((answered[15], answered[16]), (back, place_of(fast)))

    def test_what_stands_at_r15_does_not_matter(self):
        for fast in EACH:
            state = make_state(USER, C)
            for word in (UNSAID, 0xE1A00000, 0x01A00000, 0xEF000000, 0xEE000000, mul(1, 1, 2), 0xE3A0F000):
                pokes = word_pokes(PC, word) + word_pokes(place_of(fast), UNSAID)
                self.assert_let_in(fast, state, let_in(fast, state), pokes, [PC + 3], [word >> 24])

    def test_any_saved_status(self):
        # What the others saved stays, also with a mode that is none; the entered mode's is written over.
        for fast in EACH:
            for mode in range(32):
                state = make_state(SVC, saved={kept_by: N | I | mode for kept_by in (FIQ, IRQ, SVC, ABT, UND)})
                answered = arm_interrupt(fast, state, [], [])
                expected = [N | I | mode] * 5
                expected[SAVED[entered_by(fast)] - 34] = SVC
                self.assertEqual(answered[1 + 34:40], expected)


class InFull(InterruptCase):
    """Written out by hand: what is put away, and what is taken up."""

    def test_an_interrupt_out_of_user(self):
        changes = {13: 25, 14: PC + 4, 15: 0x18, 23: 13, 24: 14, STATUS: C | IRQ | I, 35: C | USER}
        self.assert_changes(0, numbered_state(USER, C), changes)

    def test_an_interrupt_out_of_system(self):
        changes = {13: 25, 14: PC + 4, 15: 0x18, 23: 13, 24: 14, STATUS: N | IRQ | I | F, 35: N | SYSTEM | F}
        self.assert_changes(0, numbered_state(SYSTEM, N | F), changes)

    def test_an_interrupt_out_of_svc_abt_and_und(self):
        for mode, start in ((SVC, 27), (ABT, 29), (UND, 31)):
            changes = {13: 25, 14: PC + 4, 15: 0x18, start: 13, start + 1: 14, STATUS: IRQ | I, 35: mode}
            self.assert_changes(0, numbered_state(mode), changes)

    def test_an_interrupt_out_of_its_own_mode(self):
        # The pair in use is written to its bank, and stays but for R14.
        changes = {14: PC + 4, 15: 0x18, 25: 13, 26: 14, STATUS: Z | IRQ | I, 35: Z | IRQ}
        self.assert_changes(0, numbered_state(IRQ, Z), changes)

    def test_an_interrupt_out_of_fiq(self):
        # The sevens change places; no bank is written, and IRQ's pair is taken.
        changes = {8: 16, 9: 17, 10: 18, 11: 19, 12: 20, 13: 25, 14: PC + 4, 15: 0x18}
        changes.update({16: 8, 17: 9, 18: 10, 19: 11, 20: 12, 21: 13, 22: 14, STATUS: V | IRQ | I | F, 35: V | FIQ | F})
        self.assert_changes(0, numbered_state(FIQ, V | F), changes)

    def test_a_fast_one_out_of_each_other_mode(self):
        for mode, start in ((USER, 23), (SYSTEM, 23), (IRQ, 25), (SVC, 27), (ABT, 29), (UND, 31)):
            changes = {8: 16, 9: 17, 10: 18, 11: 19, 12: 20, 13: 21, 14: PC + 4, 15: 0x1C, start: 13, start + 1: 14}
            changes.update({16: 8, 17: 9, 18: 10, 19: 11, 20: 12, 21: 13, 22: 14})
            changes.update({STATUS: C | FIQ | I | F, 34: C | mode | I})
            for fast in FAST:
                self.assert_changes(fast, numbered_state(mode, C | I), changes)

    def test_a_fast_one_out_of_its_own_mode(self):
        # Nothing moves: R14 alone is lost.
        changes = {14: PC + 4, 15: 0x1C, STATUS: N | FIQ | I | F, 34: N | FIQ}
        for fast in FAST:
            self.assert_changes(fast, numbered_state(FIQ, N), changes)

    def test_the_largest_numbers(self):
        state = [WORD] * 39
        state[15] = 4294967292
        state[STATUS] = WORD ^ I
        expected = [WORD] * 14 + [0, 0x18] + [WORD] * 17 + [N | Z | C | V | IRQ | I | F] + [STATUS_BITS] * 5
        expected[35] = STATUS_BITS ^ I
        self.assert_let_in(0, state, expected)

    def test_the_least_numbers(self):
        state = [0] * 39
        state[STATUS] = USER
        self.assert_let_in(1, state, [0] * 14 + [4, 0x1C] + [0] * 17 + [FIQ | I | F, USER, 0, 0, 0, 0])


class KeptOut(unittest.TestCase):
    def test_a_fast_one_by_f(self):
        for fast in FAST:
            for mode in MODES:
                for bits in (F, F | I, F | N | C, F | I | Z | V):
                    self.assertEqual(arm_interrupt(fast, make_state(mode, bits), [1, 2], [1, 2, 3]), [0])

    def test_another_by_i(self):
        for mode in MODES:
            for bits in (I, I | F, I | N | C, I | F | Z | V):
                self.assertEqual(arm_interrupt(0, make_state(mode, bits), [1, 2], [1, 2, 3]), [0])

    def test_a_fast_one_not_by_i_alone(self):
        for fast in FAST:
            for mode in MODES:
                answered = arm_interrupt(fast, make_state(mode, I), [], [])
                self.assertEqual((answered[0], len(answered), answered[16]), (1, 40, 0x1C))

    def test_another_not_by_f_alone(self):
        for mode in MODES:
            answered = arm_interrupt(0, make_state(mode, F), [], [])
            self.assertEqual((answered[0], len(answered), answered[16]), (1, 40, 0x18))

    def test_a_saved_i_or_f_keeps_nothing_out(self):
        for fast in EACH:
            for mode in MODES:
                state = make_state(mode, saved={kept_by: I | F | SVC for kept_by in (FIQ, IRQ, SVC, ABT, UND)})
                self.assertEqual(arm_interrupt(fast, state, [], [])[0], 1)

    def test_each_other_bit_keeps_nothing_out(self):
        for fast in EACH:
            for number in [5] + list(range(8, 32)):
                self.assertEqual(arm_interrupt(fast, make_state(SVC, 1 << number), [], [])[0], 1)

    def test_the_next_one(self):
        # One that is let in keeps out the next; behind another than a fast one, a fast one still comes in.
        slow = arm_interrupt(0, make_state(USER), [], [])[1:40]
        fast = arm_interrupt(1, make_state(USER), [], [])[1:40]
        self.assertEqual(arm_interrupt(0, slow, [], []), [0])
        self.assertEqual(arm_interrupt(0, fast, [], []), [0])
        self.assertEqual(arm_interrupt(1, fast, [], []), [0])
        within = arm_interrupt(1, slow, [], [])
        self.assertEqual((within[0], within[15], within[16]), (1, 0x1C, 0x1C))
        self.assertEqual(within[1 + SAVED[FIQ]], IRQ | I)


class OtherBits(unittest.TestCase):
    def test_they_are_0_in_all_six(self):
        for fast in EACH:
            for mode in MODES:
                state = make_state(mode, OTHER_BITS | N)
                for k in range(34, 39):
                    state[k] = WORD ^ (k << 4 & STATUS_BITS)
                answered = arm_interrupt(fast, state, [], [])
                self.assertEqual(answered[0], 1)
                self.assertEqual([status & OTHER_BITS for status in answered[34:40]], [0] * 6)
                self.assertEqual(answered[1:], let_in(fast, state))

    def test_each_of_them_in_each_status(self):
        for fast in EACH:
            plain = arm_interrupt(fast, make_state(SVC), [], [])
            for number in [5] + list(range(8, 28)):
                for k in range(33, 39):
                    state = make_state(SVC)
                    state[k] |= 1 << number
                    self.assertEqual(arm_interrupt(fast, state, [], []), plain)

    def test_in_the_status_that_is_saved(self):
        for fast in EACH:
            answered = arm_interrupt(fast, make_state(ABT, OTHER_BITS | V), [], [])
            self.assertEqual(answered[1 + SAVED[entered_by(fast)]], V | ABT)


class Memory(unittest.TestCase):
    def test_where_it_goes_on(self):
        pokes = program_pokes([0x01020304 + 0x04040404 * k for k in range(12)], 0)
        for fast in EACH:
            for mode in MODES:
                answered = arm_interrupt(fast, make_state(mode), pokes, list(range(48)))
                self.assertEqual(answered[40:], pokes[1::2])
                self.assertEqual(arm_interrupt(fast, make_state(mode), [], list(range(48)))[40:], [0] * 48)

    def test_all_places(self):
        # All that the state names is a place in memory, poked or not.
        state = [4 * k for k in range(39)]
        state[STATUS] = SVC
        pokes = [number for k in range(0, 1048576, 61) for number in (k, k % 256)]
        held = dict(zip(pokes[0::2], pokes[1::2]))
        for fast in (0, 1):
            for start in range(0, 1048576, 49000):
                looks = list(range(start, min(start + 49000, 1048576)))
                answered = arm_interrupt(fast, state, pokes, looks)
                self.assertEqual(answered[40:], [held.get(place, 0) for place in looks])

    def test_around_r13_and_r14(self):
        for fast in EACH:
            state = make_state(SVC)
            state[13:15] = [0x4000, 0x4010]
            state[BANK[IRQ]:BANK[IRQ] + 2] = [0x4020, 0x4030]
            state[HIGH + 5:HIGH + 7] = [0x4040, 0x4050]
            pokes = [number for k in range(0x3FC0, 0x4080) for number in (k, 1 + k % 199)]
            self.assertEqual(arm_interrupt(fast, state, pokes, pokes[0::2])[40:], pokes[1::2])


class Refusals(unittest.TestCase):
    def test_the_mode_is_none(self):
        for fast in EACH:
            for mode in range(32):
                for bits in (0, I, F, I | F, OTHER_BITS):
                    answered = arm_interrupt(fast, make_state(mode, bits), [], [1, 2])
                    if mode not in MODES:
                        self.assertEqual(answered, [-2], (fast, mode, bits))
                    else:
                        self.assertIn(answered[0], (0, 1))

    def test_r15_is_no_multiple_of_4(self):
        for fast in EACH:
            for upper in (0, 0x18, PC, 0xFFFFC, 4294967292):
                for low in range(4):
                    for bits in (0, I, F, I | F):
                        answered = arm_interrupt(fast, make_state(SVC, bits, upper + low), [], [1, 2])
                        if low != 0:
                            self.assertEqual(answered, [-2])
                        else:
                            self.assertIn(answered[0], (0, 1))

    def test_ahead_of_being_kept_out(self):
        for fast in EACH:
            self.assertEqual(arm_interrupt(fast, make_state(SVC, I | F), [], []), [0])
            self.assertEqual(arm_interrupt(fast, make_state(0, I | F), [], []), [-2])
            self.assertEqual(arm_interrupt(fast, make_state(SVC, I | F, PC + 2), [], []), [-2])
            self.assertEqual(arm_interrupt(fast, make_state(0x1E, I | F, PC + 1), [], []), [-2])

    def test_the_other_bits_do_not_make_a_mode_none(self):
        for fast in EACH:
            self.assertEqual(arm_interrupt(fast, make_state(SVC, 0x20), [], [])[0], 1)


class Answers(unittest.TestCase):
    def test_length_and_order(self):
        for fast in EACH:
            state = make_state(USER, N)
            answered = arm_interrupt(fast, state, word_pokes(0x4000, 0x04030201), [0x4003, 0x4000, 0x4002, 0x4004, 0x4000])
            self.assertEqual(answered, [1] + let_in(fast, state) + [4, 1, 3, 0, 1])
            self.assertEqual(len(answered), 45)

    def test_0_and_refusals_alone(self):
        looks = [0, 1, 2]
        for fast in EACH:
            self.assertEqual(arm_interrupt(fast, make_state(SVC, I | F), [0, 9], looks), [0])
            self.assertEqual(arm_interrupt(fast, make_state(5), [0, 9], looks), [-2])
            self.assertEqual(arm_interrupt(fast, make_state(pc=PC + 3), [0, 9], looks), [-2])

    def test_empty_lists(self):
        for fast in EACH:
            state = make_state(ABT)
            self.assertEqual(arm_interrupt(fast, state, [], []), [1] + let_in(fast, state))

    def test_the_longest_lists(self):
        for fast in EACH:
            state = make_state(UND)
            pokes = [number for k in range(24500) for number in (1048575 - k, k % 251)]
            looks = [1048575 - k for k in range(49000)]
            self.assertEqual((len(pokes), len(looks)), (49000, 49000))
            answered = arm_interrupt(fast, state, pokes, looks)
            self.assertEqual(answered[:40], [1] + let_in(fast, state))
            self.assertEqual(answered[40:], [k % 251 for k in range(24500)] + [0] * 24500)
            self.assertEqual(arm_interrupt(fast, make_state(UND, I | F), pokes, looks), [0])
            self.assertEqual(arm_interrupt(fast, make_state(0), pokes, looks), [-2])

    def test_the_later_poke_counts(self):
        for fast in EACH:
            pokes = [7, 1, 0x18, 4, 7, 2, 0x18, 5, 8, 6, 7, 3, 8, 0]
            self.assertEqual(arm_interrupt(fast, make_state(), pokes, [7, 8, 0x18])[40:], [3, 0, 5])

    def test_looks_at_places_never_poked(self):
        for fast in EACH:
            answered = arm_interrupt(fast, make_state(), [9, 200], [0, 8, 9, 10, 0x18, 0x1C, PC, 1048575])
            self.assertEqual(answered[40:], [0, 0, 200, 0, 0, 0, 0, 0])

    def test_the_first_and_last_place(self):
        for fast in EACH:
            self.assertEqual(arm_interrupt(fast, make_state(), [0, 255, 1048575, 254], [1048575, 0])[40:], [254, 255])

    def test_what_was_handed_in_stays(self):
        for fast in EACH:
            for mode in MODES + (0,):
                for bits in (0, I, F, I | F):
                    state = make_state(mode, OTHER_BITS | bits)
                    pokes = [0x4000, 1, 0x4000, 2]
                    looks = [0x4000, PC]
                    kept = (list(state), list(pokes), list(looks))
                    arm_interrupt(fast, state, pokes, looks)
                    self.assertEqual((state, pokes, looks), kept)

    def test_what_is_answered_is_new(self):
        state = make_state()
        answered = arm_interrupt(0, state, [], [])
        answered[1] = 5
        self.assertNotEqual(state[0], 5)
        self.assertIsNot(arm_interrupt(0, state, [], []), arm_interrupt(0, state, [], []))


class AndBack(unittest.TestCase):
    """R14 less four is where it would have gone on; the return brings back what was put away."""

    def test_into_each_mode(self):
        for fast in EACH:
            for mode in MODES:
                state = make_state(mode, N | C, pc=4294967292)
                within = arm_interrupt(fast, state, [], [])[1:40]
                answered = arm_step(within, word_pokes(place_of(fast), RETURN), [])
                back = answered[1:40]
                self.assertEqual(answered[0], 0)
                self.assertEqual((back[15], back[STATUS]), (4294967292, N | C | mode))
                self.assertEqual(back[:14], state[:14])
                if mode != entered_by(fast):
                    self.assertEqual(back[14], state[14])

    def test_between_two_steps(self):
        # What is interrupted counts in R1, what is done in between counts in R0.
        words = [sum_by_number(ADD, 0, 0, 0, 1), RETURN]
        for fast in EACH:
            pokes = program_pokes(words, place_of(fast)) + program_pokes([sum_by_number(ADD, 0, 1, 1, 1)] * 4)
            state = make_state(USER, regs=[(0, 0), (1, 0)])
            first = arm_run(2, state, pokes, [])[1:40]
            within = arm_interrupt(fast, first, pokes, [])[1:40]
            answered = arm_run(4, within, pokes, [])
            self.assertEqual(answered[:3], [4, 1, 4])
            self.assertEqual((answered[16], answered[1 + STATUS]), (PC + 16, USER))
