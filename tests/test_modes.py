"""What is put away and taken up with a mode; exceptions; the statuses' other bits."""

from condwords.machine import arm_step
from tests.support import (
    ABT, C, F, FIQ, I, IRQ, MODES, MODES_WITH_SAVED, MOV, N, PC, SAVED, STATUS, SVC, SYSTEM, StepCase, UND, USER, V, WORD,
    Z, jump, make_state, moves, msr, sum_by_number, sum_of, word_pokes,
)

SWI = 0xEF123456
COPROCESSOR = 0xEE000000


class TakenUp(StepCase):
    def test_each_out_of_each_by_msr(self):
        for old in MODES:
            for new in MODES:
                if old != USER:
                    state = make_state(old, N | I, regs=[(2, C | F | new)])
                    changes = moves(state, old, new)
                    changes[STATUS] = C | F | new
                    self.assert_step(msr(2), state, changes)

    def test_each_out_of_each_by_a_return(self):
        for old in MODES_WITH_SAVED:
            for new in MODES:
                state = make_state(old, N | I, regs=[(2, 0x9000)], saved={old: V | new})
                changes = moves(state, old, new)
                changes.update({STATUS: V | new, 15: 0x9000})
                self.assert_step(sum_of(MOV, 1, 0, 15, 2), state, changes)

    def test_svc_to_irq(self):
        state = make_state(SVC, regs=[(0, IRQ), (13, 0x1313), (14, 0x1414)])
        state[25:27] = [0x2525, 0x2626]
        self.assert_step(msr(0), state, {STATUS: IRQ, 27: 0x1313, 28: 0x1414, 13: 0x2525, 14: 0x2626})

    def test_svc_to_fiq(self):
        state = make_state(SVC, regs=[(0, FIQ)])
        state[8:15] = [8, 9, 10, 11, 12, 13, 14]
        state[16:23] = [108, 109, 110, 111, 112, 113, 114]
        answered = self.answer(msr(0), state)
        self.assertEqual(answered[9:16], [108, 109, 110, 111, 112, 113, 114])
        self.assertEqual(answered[17:24], [8, 9, 10, 11, 12, 13, 14])
        self.assertEqual(answered[28:30], [13, 14])

    def test_fiq_to_abt(self):
        state = make_state(FIQ, regs=[(0, ABT)])
        state[8:15] = [8, 9, 10, 11, 12, 13, 14]
        state[16:23] = [108, 109, 110, 111, 112, 113, 114]
        state[23:33] = [200, 201, 202, 203, 204, 205, 206, 207, 208, 209]
        answered = self.answer(msr(0), state)
        self.assertEqual(answered[9:16], [108, 109, 110, 111, 112, 206, 207])
        self.assertEqual(answered[17:24], [8, 9, 10, 11, 12, 13, 14])
        self.assertEqual(answered[24:34], [200, 201, 202, 203, 204, 205, 206, 207, 208, 209])

    def test_fiq_to_fiq_moves_nothing(self):
        state = make_state(FIQ, regs=[(0, N | FIQ)])
        self.assert_step(msr(0), state, {STATUS: N | FIQ})

    def test_user_and_system_share_all(self):
        state = make_state(SYSTEM, regs=[(0, USER)])
        self.assert_step(msr(0), state, {STATUS: USER, 23: state[13], 24: state[14]})

    def test_what_is_told_alone_takes_up_no_mode(self):
        state = make_state(SVC)
        self.assert_step(sum_by_number(MOV, 1, 0, 0, 0), state, {0: 0, STATUS: Z | SVC})


class Exceptions(StepCase):
    def entered(self, state, old, new, place, status):
        changes = moves(state, old, new)
        changes.update({SAVED[new]: status, STATUS: (status & ~31) | new | I, 14: (state[15] + 4) & WORD, 15: place})
        return changes

    def test_swi_out_of_each_mode(self):
        for mode in MODES:
            for bits in (0, N | C, Z | V | I, F, I | F):
                state = make_state(mode, bits)
                self.assert_step(SWI, state, self.entered(state, mode, SVC, 8, mode | bits))

    def test_undefined_out_of_each_mode(self):
        for mode in MODES:
            for bits in (0, N | C, Z | V | I, F, I | F):
                state = make_state(mode, bits)
                self.assert_step(COPROCESSOR, state, self.entered(state, mode, UND, 4, mode | bits))

    def test_swi_out_of_svc_in_full(self):
        state = make_state(SVC, N, regs=[(13, 0x1313), (14, 0x1414)])
        self.assert_step(SWI, state, {
            15: 8, 14: PC + 4, 27: 0x1313, 28: 0x1414, STATUS: N | SVC | I, SAVED[SVC]: N | SVC})

    def test_swi_out_of_user_in_full(self):
        state = make_state(USER, C, regs=[(13, 0x1313), (14, 0x1414)])
        state[27:29] = [0x2727, 0x2828]
        self.assert_step(SWI, state, {
            15: 8, 13: 0x2727, 14: PC + 4, 23: 0x1313, 24: 0x1414, STATUS: C | SVC | I, SAVED[SVC]: C | USER})

    def test_the_next_instruction_modulo_a_word(self):
        state = make_state(USER, pc=0xFFFFFFFC)
        self.assertEqual(self.answer(SWI, state)[15], 0)
        self.assertEqual(self.answer(COPROCESSOR, state)[15], 0)

    def test_each_swi(self):
        for number in (0, 1, 0xFFFFFF):
            state = make_state(IRQ)
            self.assert_step(0xEF000000 | number, state, self.entered(state, IRQ, SVC, 8, IRQ))

    def test_what_is_saved_has_no_other_bits(self):
        state = make_state(USER, 0x0FFFFF20 | V)
        self.assertEqual(self.answer(SWI, state)[1 + SAVED[SVC]], V | USER)


class OtherBits(StepCase):
    def test_they_are_0_in_all_six(self):
        state = make_state(SVC, 0x0FFFFF20 | N)
        for k in range(34, 39):
            state[k] = WORD
        for word in (0xE1A00000, 0x01A00000, jump(0)):
            answered = self.answer(word, state)
            self.assertEqual(answered[34], N | SVC)
            self.assertEqual(answered[35:40], [0xF00000DF] * 5)

    def test_each_of_them_in_each_status(self):
        for number in [5] + list(range(8, 28)):
            for k in range(33, 39):
                state = make_state(SVC)
                state[k] |= 1 << number
                self.assert_step(0xE1A00000, state, {})

    def test_each_of_the_others_stays(self):
        for number in (31, 30, 29, 28, 7, 6, 4, 3, 2, 1, 0):
            for k in range(34, 39):
                state = make_state(SVC)
                state[k] ^= 1 << number
                self.assert_step(0xE1A00000, state, {k: state[k]})

    def test_they_do_not_make_a_mode_none(self):
        state = make_state(SVC, 0x20)
        self.assert_step(0xE1A00000, state, {STATUS: SVC})


class ModeThatIsNone(StepCase):
    def test_the_status(self):
        for mode in range(32):
            state = make_state(mode, N)
            answered = arm_step(state, word_pokes(PC, 0xE1A00000), [])
            if mode in MODES:
                self.assertEqual(answered[0], 0)
                self.assertEqual(answered[1 + STATUS], mode | N)
            else:
                self.assertEqual(answered, [-2])

    def test_a_saved_one_may_have_any(self):
        for mode in range(32):
            state = make_state(SVC, saved={SVC: mode, FIQ: mode, UND: mode})
            self.assert_step(0xE1A00000, state, {})
