"""MRS, MSR."""

from tests.support import (
    ABT, BANK, C, F, FIQ, I, IRQ, MODES, MODES_WITH_SAVED, N, SAVED, STATUS, STATUS_BITS, SVC, SYSTEM, StepCase, UND,
    USER, V, WORD, Z, make_state, mrs, msr, msr_number,
)


class Read(StepCase):
    def test_the_status(self):
        for mode in MODES:
            self.assert_step(mrs(3), make_state(mode, N | C | F), {3: N | C | F | mode})
            self.assert_step(mrs(14), make_state(mode, Z | V | I), {14: Z | V | I | mode})

    def test_the_saved_status(self):
        for mode in MODES_WITH_SAVED:
            state = make_state(mode, saved={mode: N | V | I | 5})
            self.assert_step(mrs(3, saved=1), state, {3: N | V | I | 5})

    def test_other_bits_read_as_0(self):
        state = make_state(SVC, 0x0FFFFF20, saved={SVC: WORD})
        self.assert_step(mrs(3), state, {3: SVC})
        self.assert_step(mrs(3, saved=1), state, {3: STATUS_BITS})


def pair_put_away(state, mode):
    """What else changes when the mode in use is taken up again."""
    if mode == FIQ:
        return {}
    return {BANK[mode]: state[13], BANK[mode] + 1: state[14]}


class Write(StepCase):
    def test_the_upper_byte(self):
        for mode in MODES:
            state = make_state(mode, Z | I, regs=[(2, N | C | 0x0FFFFFFF)])
            changes = pair_put_away(state, mode)
            changes[STATUS] = N | C | I | mode
            self.assert_step(msr(2, fields=8), state, changes)

    def test_the_control_byte(self):
        for mode in MODES:
            if mode == USER:
                continue
            state = make_state(mode, Z | I, regs=[(2, N | C | F | 0x0FFFFF20 | mode)])
            changes = pair_put_away(state, mode)
            changes[STATUS] = Z | F | mode
            self.assert_step(msr(2, fields=1), state, changes)

    def test_both(self):
        state = make_state(SVC, Z | I, regs=[(2, N | V | F | 0x0FFFFF20 | SVC)])
        changes = pair_put_away(state, SVC)
        changes[STATUS] = N | V | F | SVC
        self.assert_step(msr(2, fields=9), state, changes)

    def test_each_bit(self):
        for number in (31, 30, 29, 28, 7, 6):
            state = make_state(ABT, 0, regs=[(2, 1 << number | ABT)])
            changes = pair_put_away(state, ABT)
            changes[STATUS] = 1 << number | ABT
            self.assert_step(msr(2), state, changes)
            state = make_state(ABT, N | Z | C | V | I | F, regs=[(2, (WORD ^ 1 << number) & ~31 | ABT)])
            changes[STATUS] = (N | Z | C | V | I | F) & ~(1 << number) | ABT
            self.assert_step(msr(2), state, changes)

    def test_a_number(self):
        state = make_state(SVC, Z | C)
        changes = pair_put_away(state, SVC)
        changes[STATUS] = N | V | SVC
        self.assert_step(msr_number(0x9F, turn=4, fields=8), state, changes)
        changes[STATUS] = Z | C | I | F | SVC
        self.assert_step(msr_number(0xF3, fields=1), state, changes)
        state = make_state(SVC, Z | C | I)
        changes[STATUS] = SVC
        self.assert_step(msr_number(0x13, fields=9), state, changes)

    def test_the_carry_does_not_enter_a_number(self):
        state = make_state(SVC, C)
        changes = pair_put_away(state, SVC)
        changes[STATUS] = SVC
        self.assert_step(msr_number(0, turn=1, fields=8), state, changes)

    def test_the_user_changes_the_upper_byte_alone(self):
        state = make_state(USER, Z | I, regs=[(2, N | F | SVC)])
        changes = pair_put_away(state, USER)
        changes[STATUS] = N | I | USER
        self.assert_step(msr(2, fields=9), state, changes)
        changes[STATUS] = Z | I | USER
        self.assert_step(msr(2, fields=1), state, changes)
        self.assert_step(msr_number(0xD3, fields=1), state, changes)

    def test_the_user_may_name_a_mode_that_is_none(self):
        state = make_state(USER, Z, regs=[(2, 0)])
        changes = pair_put_away(state, USER)
        changes[STATUS] = Z | USER
        self.assert_step(msr(2, fields=1), state, changes)
        changes[STATUS] = USER
        self.assert_step(msr(2, fields=9), state, changes)

    def test_the_system_changes_all(self):
        state = make_state(SYSTEM, Z, regs=[(2, N | I | USER)])
        changes = pair_put_away(state, SYSTEM)
        changes[STATUS] = N | I | USER
        self.assert_step(msr(2, fields=9), state, changes)

    def test_the_saved_status(self):
        for mode in MODES_WITH_SAVED:
            state = make_state(mode, saved={mode: Z | I | IRQ}, regs=[(2, N | F | UND)])
            self.assert_step(msr(2, 9, saved=1), state, {SAVED[mode]: N | F | UND})
            self.assert_step(msr(2, 8, saved=1), state, {SAVED[mode]: N | I | IRQ})
            self.assert_step(msr(2, 1, saved=1), state, {SAVED[mode]: Z | F | UND})
            self.assert_step(msr_number(0x5F, 4, 8, saved=1), state, {SAVED[mode]: Z | V | I | IRQ})

    def test_the_saved_status_may_be_given_any_mode(self):
        for mode in range(32):
            state = make_state(SVC, regs=[(2, mode)], saved={SVC: N | USER})
            self.assert_step(msr(2, 1, saved=1), state, {SAVED[SVC]: N | mode})

    def test_other_bits_of_the_saved_status_stay_0(self):
        state = make_state(SVC, regs=[(2, WORD)], saved={SVC: 0})
        self.assert_step(msr(2, 9, saved=1), state, {SAVED[SVC]: STATUS_BITS})

    def test_the_value_may_be_one_that_is_put_away(self):
        state = make_state(SVC, regs=[(14, C | IRQ)])
        self.assert_step(msr(14), state, {
            STATUS: C | IRQ, BANK[SVC]: state[13], BANK[SVC] + 1: C | IRQ, 13: state[BANK[IRQ]], 14: state[BANK[IRQ] + 1]})
