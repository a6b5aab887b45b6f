"""Data processing: the operations, N Z C V, the shifts, and R15 as operand and as result."""

from tests.support import (
    ADC, ADD, AND, ASR, BANK, BIC, C, CMN, CMP, COMPARISONS, EOR, F, FIQ, HIGH, I, IRQ, LSL, LSR, MODES_WITH_SAVED, MOV,
    MVN, N, ORR, PC, ROR, RSB, RSC, SBC, STATUS, SUB, SVC, SYSTEM, StepCase, TEQ, TST, USER, V, WORD, Z,
    make_state, sum_by_number, sum_of, sum_shifted_by,
)

# The operation, its operands, N Z C V ahead of it, the result, N Z C V behind it.
ARITHMETIC = [
    (ADD, 1, 2, N | Z | C | V, 3, 0),
    (ADD, 0x7FFFFFFF, 1, 0, 0x80000000, N | V),
    (ADD, 0xFFFFFFFF, 1, 0, 0, Z | C),
    (ADD, 0x80000000, 0x80000000, 0, 0, Z | C | V),
    (ADD, 0xFFFFFFFF, 0xFFFFFFFF, C, 0xFFFFFFFE, N | C),
    (ADC, 1, 2, 0, 3, 0),
    (ADC, 1, 2, C, 4, 0),
    (ADC, 0xFFFFFFFF, 0, C, 0, Z | C),
    (ADC, 0xFFFFFFFF, 0, 0, 0xFFFFFFFF, N),
    (ADC, 0x7FFFFFFF, 0, C, 0x80000000, N | V),
    (ADC, 0xFFFFFFFF, 0xFFFFFFFF, C, 0xFFFFFFFF, N | C),
    (SUB, 5, 3, 0, 2, C),
    (SUB, 3, 5, C, 0xFFFFFFFE, N),
    (SUB, 7, 7, 0, 0, Z | C),
    (SUB, 0x80000000, 1, 0, 0x7FFFFFFF, C | V),
    (SUB, 0x7FFFFFFF, 0xFFFFFFFF, 0, 0x80000000, N | V),
    (RSB, 3, 5, 0, 2, C),
    (RSB, 5, 3, C, 0xFFFFFFFE, N),
    (RSB, 1, 0x80000000, 0, 0x7FFFFFFF, C | V),
    (RSB, 9, 9, 0, 0, Z | C),
    (SBC, 5, 3, C, 2, C),
    (SBC, 5, 3, 0, 1, C),
    (SBC, 3, 3, 0, 0xFFFFFFFF, N),
    (SBC, 3, 3, C, 0, Z | C),
    (SBC, 0x80000000, 0, 0, 0x7FFFFFFF, C | V),
    (SBC, 0, 0xFFFFFFFF, 0, 0, Z),
    (RSC, 3, 5, C, 2, C),
    (RSC, 3, 5, 0, 1, C),
    (RSC, 3, 3, 0, 0xFFFFFFFF, N),
    (RSC, 0, 0x80000000, 0, 0x7FFFFFFF, C | V),
    (RSC, 0xFFFFFFFF, 0, 0, 0, Z),
    (CMP, 5, 3, V, None, C),
    (CMP, 3, 5, C, None, N),
    (CMP, 7, 7, 0, None, Z | C),
    (CMP, 0x80000000, 1, 0, None, C | V),
    (CMN, 1, 2, N | Z | C | V, None, 0),
    (CMN, 0xFFFFFFFF, 1, 0, None, Z | C),
    (CMN, 0x7FFFFFFF, 1, 0, None, N | V),
]

# The operation, its operands, the result; C comes from the shift and V stays.
LOGICAL = [
    (AND, 0xF0F0F0F0, 0xFF00FF00, 0xF000F000),
    (AND, 0x0F0F0F0F, 0x70F0F0F0, 0),
    (EOR, 0xF0F0F0F0, 0xFF00FF00, 0x0FF00FF0),
    (EOR, 0x12345678, 0x12345678, 0),
    (EOR, 0x80000000, 0x00000001, 0x80000001),
    (TST, 0xF0F0F0F0, 0xFF00FF00, 0xF000F000),
    (TST, 0x0F0F0F0F, 0x70F0F0F0, 0),
    (TEQ, 0x12345678, 0x12345678, 0),
    (TEQ, 0xF0F0F0F0, 0x7F00FF00, 0x8FF00FF0),
    (ORR, 0x10305070, 0x01020304, 0x11325374),
    (ORR, 0x80000000, 1, 0x80000001),
    (ORR, 0, 0, 0),
    (MOV, 0x12345678, 0x0000CAFE, 0x0000CAFE),
    (MOV, 0x12345678, 0, 0),
    (MOV, 0, 0xFFFFFFFF, 0xFFFFFFFF),
    (BIC, 0xF0F0F0F0, 0xFF00FF00, 0x00F000F0),
    (BIC, 0xFFFFFFFF, 0x7FFFFFFF, 0x80000000),
    (BIC, 0x00FF00FF, 0xFFFFFFFF, 0),
    (MVN, 0x12345678, 0x0000CAFE, 0xFFFF3501),
    (MVN, 0x12345678, 0xFFFFFFFF, 0),
]

# The shift, the amount, the value, C ahead of it, the shifted value, C behind it.
SHIFTS_BY_NUMBER = [
    (LSL, 0, 0x80000001, 0, 0x80000001, 0),
    (LSL, 0, 0x80000001, 1, 0x80000001, 1),
    (LSL, 1, 0x80000001, 0, 0x00000002, 1),
    (LSL, 1, 0x40000001, 1, 0x80000002, 0),
    (LSL, 31, 0x00000003, 0, 0x80000000, 1),
    (LSL, 31, 0x00000001, 1, 0x80000000, 0),
    (LSR, 0, 0x80000000, 0, 0, 1),
    (LSR, 0, 0x7FFFFFFF, 1, 0, 0),
    (LSR, 1, 0x80000003, 0, 0x40000001, 1),
    (LSR, 1, 0x80000002, 1, 0x40000001, 0),
    (LSR, 31, 0xC0000000, 0, 1, 1),
    (ASR, 0, 0x80000000, 0, 0xFFFFFFFF, 1),
    (ASR, 0, 0x7FFFFFFF, 1, 0, 0),
    (ASR, 1, 0x80000001, 0, 0xC0000000, 1),
    (ASR, 1, 0x40000002, 1, 0x20000001, 0),
    (ASR, 31, 0xC0000000, 0, 0xFFFFFFFF, 1),
    (ASR, 31, 0x80000000, 1, 0xFFFFFFFF, 0),
    (ROR, 0, 0x00000003, 0, 0x00000001, 1),
    (ROR, 0, 0x00000002, 1, 0x80000001, 0),
    (ROR, 1, 0x00000001, 0, 0x80000000, 1),
    (ROR, 1, 0x80000002, 1, 0x40000001, 0),
    (ROR, 8, 0x12345678, 1, 0x78123456, 0),
    (ROR, 31, 0x40000001, 0, 0x80000002, 1),
]

# The shift, what the register that tells it holds, and the rest as above.
SHIFTS_BY_BYTE = [
    (LSL, 0, 0x80000001, 0, 0x80000001, 0),
    (LSL, 0, 0x80000001, 1, 0x80000001, 1),
    (LSL, 0xFFFFFF00, 0x80000001, 1, 0x80000001, 1),
    (LSL, 0x101, 0x80000001, 0, 2, 1),
    (LSL, 31, 3, 0, 0x80000000, 1),
    (LSL, 32, 1, 0, 0, 1),
    (LSL, 32, 2, 1, 0, 0),
    (LSL, 33, WORD, 1, 0, 0),
    (LSL, 255, WORD, 1, 0, 0),
    (LSR, 0, 0x80000001, 1, 0x80000001, 1),
    (LSR, 1, 3, 0, 1, 1),
    (LSR, 32, 0x80000000, 0, 0, 1),
    (LSR, 32, 0x7FFFFFFF, 1, 0, 0),
    (LSR, 33, WORD, 1, 0, 0),
    (LSR, 255, WORD, 1, 0, 0),
    (ASR, 0, 0x80000001, 0, 0x80000001, 0),
    (ASR, 4, 0x80000008, 0, 0xF8000000, 1),
    (ASR, 32, 0x80000000, 0, WORD, 1),
    (ASR, 33, 0x80000000, 0, WORD, 1),
    (ASR, 255, 0x7FFFFFFF, 1, 0, 0),
    (ROR, 0, 0x80000001, 0, 0x80000001, 0),
    (ROR, 0x100, 0x00000001, 1, 0x00000001, 1),
    (ROR, 4, 0x0000000F, 0, 0xF0000000, 1),
    (ROR, 32, 0x80000001, 0, 0x80000001, 1),
    (ROR, 32, 0x00000001, 1, 0x00000001, 0),
    (ROR, 36, 0x00000018, 0, 0x80000001, 1),
    (ROR, 255, 0x40000001, 0, 0x80000002, 1),
    (ROR, 224, 0x80000001, 0, 0x80000001, 1),
]

# The byte, its turn, C ahead of it, the number, C behind it.
NUMBERS = [
    (0xFF, 0, 0, 0xFF, 0),
    (0xFF, 0, 1, 0xFF, 1),
    (0x02, 1, 0, 0x80000000, 1),
    (0x04, 1, 1, 0x00000001, 0),
    (0xFF, 4, 0, 0xFF000000, 1),
    (0x7F, 4, 1, 0x7F000000, 0),
    (0x3F, 15, 1, 0xFC, 0),
    (0xC3, 2, 0, 0x3000000C, 0),
    (0, 3, 1, 0, 0),
]


def sign_and_zero(result):
    return (N if result >> 31 else 0) | (Z if result == 0 else 0)


class Operations(StepCase):
    def test_sums_and_differences(self):
        for op, first, second, before, result, after in ARITHMETIC:
            state = make_state(bits=before | I, regs=[(1, first), (2, second)])
            changes = {STATUS: after | I | SVC}
            if result is not None:
                changes[0] = result
            self.assert_step(sum_of(op, 1, 1, 0, 2), state, changes)

    def test_without_s_nothing_is_told(self):
        for op, first, second, before, result, after in ARITHMETIC:
            if result is not None:
                state = make_state(bits=before, regs=[(1, first), (2, second)])
                self.assert_step(sum_of(op, 0, 1, 0, 2), state, {0: result})
        for op, first, second, result in LOGICAL:
            if op not in COMPARISONS:
                state = make_state(bits=C | V, regs=[(1, first), (2, second)])
                self.assert_step(sum_of(op, 0, 1, 0, 2, LSL, 0), state, {0: result})

    def test_bit_by_bit(self):
        for op, first, second, result in LOGICAL:
            for kept in (0, C, V, C | V):
                state = make_state(bits=kept | F, regs=[(1, first), (2, second)])
                changes = {STATUS: sign_and_zero(result) | kept | F | SVC}
                if op not in COMPARISONS:
                    changes[0] = result
                self.assert_step(sum_of(op, 1, 1, 0, 2), state, changes)

    def test_bit_by_bit_takes_the_carry_of_the_shift(self):
        for op in (AND, EOR, TST, TEQ, ORR, MOV, BIC, MVN):
            for value, before, after in ((0x80000000, 0, C), (0x40000000, C, 0)):
                state = make_state(bits=before, regs=[(1, 0xF0), (2, value)])
                answered = self.answer(sum_of(op, 1, 1, 0, 2, LSL, 1), state)
                self.assertEqual(answered[1 + STATUS] & C, after, op)

    def test_sums_pass_over_the_carry_of_the_shift(self):
        state = make_state(regs=[(1, 1), (2, 0x80000001)])
        self.assert_step(sum_of(ADD, 1, 1, 0, 2, LSL, 1), state, {0: 3})

    def test_the_carry_of_adc_is_that_of_the_status(self):
        state = make_state(regs=[(1, 1), (2, 0x80000001)])
        self.assert_step(sum_of(ADC, 0, 1, 0, 2, LSL, 1), state, {0: 3})
        state = make_state(bits=C, regs=[(1, 1), (2, 1)])
        self.assert_step(sum_of(ADC, 0, 1, 0, 2, LSL, 1), state, {0: 4})

    def test_result_may_be_an_operand(self):
        state = make_state(regs=[(3, 5)])
        self.assert_step(sum_of(ADD, 0, 3, 3, 3), state, {3: 10})

    def test_each_number_of_a_register_up_to_14(self):
        for number in range(15):
            other = (number + 1) % 15
            state = make_state(regs=[(number, 77), (other, 3)])
            self.assert_step(sum_of(SUB, 0, number, number, other), state, {number: 74})

    def test_fields_that_are_not_used(self):
        state = make_state(regs=[(2, 5), (9, 1)])
        for op, value in ((MOV, 5), (MVN, WORD - 5)):
            for unused in (1, 9, 14, 15):
                self.assert_step(sum_of(op, 0, unused, 0, 2), state, {0: value})
        self.assert_step(sum_of(CMP, 1, 2, 9, 2), state, {STATUS: Z | C | SVC})
        self.assert_step(sum_shifted_by(MOV, 0, 14, 0, 2, LSL, 9), state, {0: 10})


class Shifts(StepCase):
    def test_by_a_number(self):
        for shift, amount, value, carry, result, carry_after in SHIFTS_BY_NUMBER:
            state = make_state(bits=(C if carry else 0) | V, regs=[(1, value)])
            told = sign_and_zero(result) | (C if carry_after else 0) | V | SVC
            self.assert_step(sum_of(MOV, 1, 0, 0, 1, shift, amount), state, {0: result, STATUS: told})

    def test_by_a_register(self):
        for shift, amount, value, carry, result, carry_after in SHIFTS_BY_BYTE:
            state = make_state(bits=C if carry else 0, regs=[(1, value), (2, amount)])
            told = sign_and_zero(result) | (C if carry_after else 0) | SVC
            self.assert_step(sum_shifted_by(MOV, 1, 0, 0, 1, shift, 2), state, {0: result, STATUS: told})

    def test_by_each_register(self):
        for k in range(15):
            rn, rd, rm, rs = k, (k + 3) % 15, (k + 7) % 15, (k + 10) % 15
            state = make_state(regs=[(rn, 100), (rm, 3), (rs, 4)])
            self.assert_step(sum_shifted_by(ADD, 0, rn, rd, rm, LSL, rs), state, {rd: 148})
            self.assert_step(sum_of(ADD, 0, rn, rd, rm, LSL, 17), state, {rd: 100 + 0x60000})

    def test_by_a_register_in_a_sum(self):
        state = make_state(regs=[(1, 100), (2, 3), (3, 0xFFFFFF04)])
        self.assert_step(sum_shifted_by(ADD, 0, 1, 0, 2, LSL, 3), state, {0: 148})

    def test_turned_numbers(self):
        for byte, turn, carry, result, carry_after in NUMBERS:
            state = make_state(bits=C if carry else 0)
            told = sign_and_zero(result) | (C if carry_after else 0) | SVC
            self.assert_step(sum_by_number(MOV, 1, 0, 0, byte, turn), state, {0: result, STATUS: told})

    def test_a_number_is_no_shift(self):
        state = make_state(regs=[(1, 1)])
        self.assert_step(sum_by_number(ADD, 0, 1, 0, 0x97), state, {0: 0x98})
        self.assert_step(sum_by_number(ADD, 0, 1, 0, 0x1F), state, {0: 0x20})


class R15(StepCase):
    def test_it_reads_eight_further(self):
        self.assert_step(sum_of(ADD, 0, 15, 0, 15), make_state(), {0: 2 * (PC + 8)})
        self.assert_step(sum_of(MOV, 0, 0, 0, 15, LSL, 4), make_state(), {0: 16 * (PC + 8)})
        self.assert_step(sum_by_number(SUB, 0, 15, 0, 8), make_state(), {0: PC})
        self.assert_step(sum_by_number(MOV, 0, 15, 3, 9), make_state(), {3: 9})

    def test_it_reads_modulo_a_word(self):
        for pc, read in ((0xFFFFFFF4, 0xFFFFFFFC), (0xFFFFFFF8, 0), (0xFFFFFFFC, 4)):
            self.assert_step(sum_of(MOV, 0, 0, 0, 15), make_state(pc=pc), {0: read})

    def test_a_jump_drops_the_low_two_bits(self):
        for low in range(4):
            state = make_state(regs=[(1, 0x12345670 + low)])
            self.assert_step(sum_of(MOV, 0, 0, 15, 1), state, {15: 0x12345670})

    def test_each_operation_into_r15_jumps(self):
        results = {
            AND: 0x00100100, EOR: 0x00030EF8, SUB: 0x00010EF8, RSB: 0xFFFEF108, ADD: 0x002310F8, ADC: 0x002310F8,
            SBC: 0x00010EF4, RSC: 0xFFFEF104, ORR: 0x00130FF8, MOV: 0x00110100, BIC: 0x00020EF8, MVN: 0xFFEEFEFC,
        }
        for op, result in results.items():
            state = make_state(regs=[(1, 0x00120FF8), (2, 0x00110100)])
            self.assert_step(sum_of(op, 0, 1, 15, 2), state, {15: result})

    def test_with_s_the_saved_status_comes_back(self):
        for op in range(16):
            if op in COMPARISONS:
                continue
            state = make_state(SVC, N | Z | I, regs=[(1, 0x5000), (2, 0x4000)], saved={SVC: C | SVC | F})
            plain = self.answer(sum_of(op, 0, 1, 15, 2), state)[16]
            changes = {15: plain, STATUS: C | SVC | F, BANK[SVC]: state[13], BANK[SVC] + 1: state[14]}
            self.assert_step(sum_of(op, 1, 1, 15, 2), state, changes)

    def test_return_into_another_mode(self):
        state = make_state(SVC, I, regs=[(14, 0x9002)], saved={SVC: V | USER})
        self.assert_step(sum_of(MOV, 1, 0, 15, 14), state, {
            15: 0x9000, STATUS: V | USER, BANK[SVC]: state[13], BANK[SVC] + 1: 0x9002,
            13: state[BANK[USER]], 14: state[BANK[USER] + 1]})

    def test_return_out_of_fiq_by_a_number(self):
        state = make_state(FIQ, I | F, regs=[(14, 0x9004)], saved={FIQ: Z | IRQ})
        changes = {15: 0x9000, STATUS: Z | IRQ, 13: state[BANK[IRQ]], 14: state[BANK[IRQ] + 1]}
        for k in range(5):
            changes[8 + k] = state[HIGH + k]
        for k in range(7):
            changes[HIGH + k] = state[8 + k]
        self.assert_step(sum_by_number(SUB, 1, 14, 15, 4), state, changes)

    def test_return_with_each_shift_by_a_number(self):
        state = make_state(SYSTEM, regs=[(1, 0x100)])
        self.assert_step(sum_of(MOV, 0, 0, 15, 1, LSL, 2), state, {15: 0x400})
        state = make_state(IRQ, regs=[(1, 0x100)], saved={IRQ: IRQ | C})
        self.assert_step(sum_of(MOV, 1, 0, 15, 1, LSR, 1), state, {
            15: 0x80, STATUS: IRQ | C, BANK[IRQ]: state[13], BANK[IRQ] + 1: state[14]})

    def test_return_takes_the_status_of_the_mode_in_use(self):
        for mode in MODES_WITH_SAVED:
            state = make_state(mode, saved={mode: N | V | mode})
            answered = self.answer(sum_of(MOV, 1, 0, 15, 0), state)
            self.assertEqual(answered[1 + STATUS], N | V | mode)
