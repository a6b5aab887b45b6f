"""Each thing that is left unsaid (-1), and next to each a neighbour that is not."""

from tests.support import (
    ADD, AND, BIC, CMN, CMP, COMPARISONS, FIQ, I, IRQ, LDRH, LDRSB, LDRSH, LSL, LSR, MODES, MODES_WITH_SAVED, MOV, MVN, N,
    ORR, ROR, STRH, SUB, SVC, SYSTEM, StepCase, TEQ, TST, UND, USER, half, half_by, long_product, make_state, many, mla,
    mrs, msr, msr_number, mul, single, single_by, sum_by_number, sum_of, sum_shifted_by, swp,
)

NONE = [mode for mode in range(32) if mode not in MODES]
POST_OR_BACK = ((0, 0), (1, 1))


def places(mode=SVC, **others):
    """A state with places in R1 to R14, so that no transfer touches the instruction."""
    return make_state(mode, regs=[(k, 0x20000 + 0x100 * k) for k in range(15)], **others)


class Sums(StepCase):
    def test_r15_where_a_register_tells_the_shift(self):
        for shift in range(4):
            for op in (AND, ADD, SUB, ORR, BIC):
                self.assert_said(sum_shifted_by(op, 0, 1, 2, 3, shift, 4), places())
                self.assert_unsaid(sum_shifted_by(op, 0, 15, 2, 3, shift, 4), places())
                self.assert_unsaid(sum_shifted_by(op, 0, 1, 15, 3, shift, 4), places())
                self.assert_unsaid(sum_shifted_by(op, 0, 1, 2, 15, shift, 4), places())
                self.assert_unsaid(sum_shifted_by(op, 0, 1, 2, 3, shift, 15), places())

    def test_r15_where_mov_and_mvn_use_nothing(self):
        for op in (MOV, MVN):
            self.assert_unsaid(sum_shifted_by(op, 0, 15, 2, 3, LSL, 4), places())
            self.assert_unsaid(sum_shifted_by(op, 1, 15, 2, 3, ROR, 4), places())
            for unused in range(15):
                self.assert_said(sum_shifted_by(op, 0, unused, 2, 3, LSL, 4), places())
            self.assert_said(sum_of(op, 0, 15, 2, 3, LSL, 4), places())
            self.assert_said(sum_by_number(op, 0, 15, 2, 0x1F, 15), places())

    def test_r15_in_comparisons_where_a_register_tells_the_shift(self):
        for op in COMPARISONS:
            self.assert_said(sum_shifted_by(op, 1, 1, 2, 3, LSR, 4), places())
            for fields in ((15, 0, 3, 4), (1, 15, 3, 4), (1, 0, 15, 4), (1, 0, 3, 15)):
                rn, rd, rm, rs = fields
                self.assert_unsaid(sum_shifted_by(op, 1, rn, rd, rm, LSR, rs), places())

    def test_r15_with_other_shifts(self):
        self.assert_said(sum_of(ADD, 0, 15, 2, 15, LSL, 3), places())
        self.assert_said(sum_of(ADD, 0, 15, 15, 15, LSR, 3), places())
        self.assert_said(sum_of(ADD, 0, 1, 2, 3, LSL, 30), places())
        self.assert_said(sum_by_number(ADD, 0, 15, 15, 0x1F, 15), places())

    def test_comparisons_into_r15(self):
        for mode in MODES:
            for op in COMPARISONS:
                self.assert_unsaid(sum_of(op, 1, 1, 15, 2), places(mode))
                self.assert_unsaid(sum_by_number(op, 1, 1, 15, 2), places(mode))
                self.assert_said(sum_of(op, 1, 1, 14, 2), places(mode))
                self.assert_said(sum_by_number(op, 1, 1, 14, 2), places(mode))

    def test_return_in_user_and_system(self):
        for op in (AND, ADD, MOV, MVN):
            for mode in (USER, SYSTEM):
                self.assert_unsaid(sum_of(op, 1, 1, 15, 2), places(mode))
                self.assert_unsaid(sum_by_number(op, 1, 1, 15, 2), places(mode))
                self.assert_said(sum_of(op, 0, 1, 15, 2), places(mode))
                self.assert_said(sum_of(op, 1, 1, 14, 2), places(mode))
            for mode in MODES_WITH_SAVED:
                self.assert_said(sum_of(op, 1, 1, 15, 2), places(mode))

    def test_return_to_a_mode_that_is_none(self):
        for mode in MODES_WITH_SAVED:
            for none in NONE:
                self.assert_unsaid(sum_of(MOV, 1, 0, 15, 2), places(mode, saved={mode: N | none}))
                self.assert_said(sum_of(MOV, 0, 0, 15, 2), places(mode, saved={mode: N | none}))
            for one in MODES:
                self.assert_said(sum_of(MOV, 1, 0, 15, 2), places(mode, saved={mode: N | one}))

    def test_another_saved_one_does_not_count(self):
        for mode in MODES_WITH_SAVED:
            saved = {other: 0 for other in MODES_WITH_SAVED}
            saved[mode] = USER
            self.assert_said(sum_of(MOV, 1, 0, 15, 2), places(mode, saved=saved))


class Products(StepCase):
    def test_r15(self):
        for s in (0, 1):
            self.assert_said(mul(1, 2, 3, s), places())
            self.assert_unsaid(mul(15, 2, 3, s), places())
            self.assert_unsaid(mul(1, 15, 3, s), places())
            self.assert_unsaid(mul(1, 2, 15, s), places())
            self.assert_said(mla(1, 2, 3, 4, s), places())
            self.assert_unsaid(mla(15, 2, 3, 4, s), places())
            self.assert_unsaid(mla(1, 15, 3, 4, s), places())
            self.assert_unsaid(mla(1, 2, 15, 4, s), places())
            self.assert_unsaid(mla(1, 2, 3, 15, s), places())

    def test_r15_in_long_ones(self):
        for sign, adds, s in ((0, 0, 0), (0, 1, 0), (1, 0, 1), (1, 1, 0)):
            self.assert_said(long_product(sign, adds, 1, 2, 3, 4, s), places())
            self.assert_unsaid(long_product(sign, adds, 15, 2, 3, 4, s), places())
            self.assert_unsaid(long_product(sign, adds, 1, 15, 3, 4, s), places())
            self.assert_unsaid(long_product(sign, adds, 1, 2, 15, 4, s), places())
            self.assert_unsaid(long_product(sign, adds, 1, 2, 3, 15, s), places())

    def test_into_the_last_factor(self):
        for number in range(15):
            other, third = (number + 1) % 15, (number + 2) % 15
            for s in (0, 1):
                self.assert_unsaid(mul(number, number, other, s), places())
                self.assert_unsaid(mla(number, number, other, third, s), places())
                self.assert_unsaid(long_product(0, 0, number, other, number, third, s), places())
                self.assert_unsaid(long_product(1, 1, other, number, number, third, s), places())
            self.assert_said(mul(number, other, number), places())
            self.assert_said(mla(number, other, number, number), places())
            self.assert_said(mla(other, number, number, number), places())
            self.assert_said(long_product(0, 0, number, other, third, number), places())
            self.assert_said(long_product(1, 1, number, other, third, other), places())

    def test_a_long_one_into_one_register_twice(self):
        for sign, adds in ((0, 0), (0, 1), (1, 0), (1, 1)):
            for s in (0, 1):
                self.assert_unsaid(long_product(sign, adds, 2, 2, 3, 4, s), places())
                self.assert_said(long_product(sign, adds, 2, 5, 3, 4, s), places())

    def test_mul_with_bits_12_to_15(self):
        for unused in range(1, 16):
            self.assert_unsaid(mul(1, 2, 3, 0, unused), places())
            self.assert_unsaid(mul(1, 2, 3, 1, unused), places())
        for addend in range(15):
            self.assert_said(mla(1, 2, 3, addend), places())

    def test_bits_27_to_22_000001_with_1001(self):
        for upper in (0xE0400000, 0xE0500000, 0xE0600000, 0xE0700000):
            self.assert_unsaid(upper | 0x00010392, places())
            self.assert_unsaid(upper | 0x000FFF9F, places())
            self.assert_said(upper | 0x00010312, places())
            self.assert_said(upper | 0x00010302, places())
        self.assert_said(0xE0010392, places())
        self.assert_said(0xE0810392, places())


class Exchanges(StepCase):
    def test_r15(self):
        for byte in (0, 1):
            self.assert_said(swp(1, 2, 3, byte), places())
            self.assert_unsaid(swp(15, 2, 3, byte), places())
            self.assert_unsaid(swp(1, 15, 3, byte), places())
            self.assert_unsaid(swp(1, 2, 15, byte), places())

    def test_the_base_is_another_of_the_two(self):
        for byte in (0, 1):
            self.assert_unsaid(swp(3, 2, 3, byte), places())
            self.assert_unsaid(swp(1, 3, 3, byte), places())
            self.assert_unsaid(swp(3, 3, 3, byte), places())
            self.assert_said(swp(2, 2, 3, byte), places())

    def test_with_bits_11_to_8_it_is_undefined_instead(self):
        for word in (swp(15, 2, 3), swp(3, 2, 3), swp(1, 3, 3), swp(1, 2, 15)):
            self.assert_unsaid(word, make_state())
            self.assert_undefined(word | 0x100, make_state())
            self.assert_undefined(word | 0x800, make_state())


class Statuses(StepCase):
    def test_r15(self):
        self.assert_unsaid(mrs(15), places())
        self.assert_unsaid(mrs(15, saved=1), places())
        self.assert_said(mrs(14, saved=1), places())
        state = make_state(SVC, regs=[(14, SVC)])
        for fields in (1, 8, 9):
            for saved in (0, 1):
                self.assert_unsaid(msr(15, fields, saved), state)
                self.assert_said(msr(14, fields, saved), state)
        self.assert_said(msr_number(0x1F, fields=8), state)
        self.assert_said(msr_number(0x1F, fields=1), state)

    def test_bits_of_mrs_that_ought_to_be_1(self):
        for number in range(16, 20):
            self.assert_unsaid(mrs(1) ^ 1 << number, places())
            self.assert_unsaid(mrs(1, saved=1) ^ 1 << number, places())
        self.assert_said(mrs(1), places())

    def test_bits_of_mrs_that_ought_to_be_0(self):
        for number in (0, 1, 2, 3, 8, 9, 10, 11):
            self.assert_unsaid(mrs(1) | 1 << number, places())
            self.assert_unsaid(mrs(1, saved=1) | 1 << number, places())

    def test_bits_of_msr_that_ought_to_be_1(self):
        state = make_state(SVC, regs=[(2, SVC)])
        for number in range(12, 16):
            for word in (msr(2), msr(2, saved=1), msr_number(SVC), msr_number(SVC, saved=1)):
                self.assert_said(word, state)
                self.assert_unsaid(word ^ 1 << number, state)

    def test_bits_of_msr_that_ought_to_be_0(self):
        state = make_state(SVC, regs=[(2, SVC)])
        for number in (17, 18):
            for fields in (1, 8, 9):
                for saved in (0, 1):
                    self.assert_said(msr(2, fields, saved), state)
                    self.assert_unsaid(msr(2, fields, saved) | 1 << number, state)
                    self.assert_unsaid(msr_number(SVC, 0, fields, saved) | 1 << number, state)
        for number in (8, 9, 10, 11):
            self.assert_unsaid(msr(2) | 1 << number, state)
            self.assert_unsaid(msr(2, saved=1) | 1 << number, state)
            self.assert_said(msr_number(0, fields=8) | 1 << number, state)

    def test_bits_7_to_4_make_it_undefined_instead(self):
        state = make_state(SVC, regs=[(2, SVC)])
        for number in (4, 5, 6, 7):
            self.assert_undefined(mrs(15) | 1 << number, state)
            self.assert_undefined(mrs(1) & ~(1 << 16) | 1 << number, state)
            self.assert_undefined(msr(15) | 1 << number, state)
            self.assert_undefined(msr(2) & ~(1 << 12) | 1 << number, state)
            self.assert_undefined(msr(2, fields=0) | 1 << number, state)
            self.assert_said(msr_number(0, fields=8) | 1 << number, state)

    def test_msr_of_neither_byte(self):
        for mode in MODES:
            state = make_state(mode, regs=[(2, mode)])
            self.assert_unsaid(msr(2, fields=0), state)
            self.assert_unsaid(msr_number(mode, fields=0), state)
            self.assert_unsaid(msr(2, fields=0, saved=1), state)
            self.assert_unsaid(msr(2, fields=6), state)
            self.assert_said(msr(2, fields=1), state)
            self.assert_said(msr(2, fields=8), state)

    def test_the_saved_status_of_user_and_system(self):
        for mode in MODES:
            state = make_state(mode, regs=[(2, mode)])
            words = [mrs(1, saved=1)]
            for fields in (1, 8, 9):
                words += [msr(2, fields, saved=1), msr_number(mode, 0, fields, saved=1)]
            for word in words:
                if mode in (USER, SYSTEM):
                    self.assert_unsaid(word, state)
                else:
                    self.assert_said(word, state)
            self.assert_said(mrs(1), state)

    def test_the_status_with_a_mode_that_is_none(self):
        for none in NONE:
            for mode in MODES:
                state = make_state(mode, regs=[(2, N | none)])
                for fields in (1, 9):
                    if mode == USER:
                        self.assert_said(msr(2, fields), state)
                        self.assert_said(msr_number(none, 0, fields), state)
                    else:
                        self.assert_unsaid(msr(2, fields), state)
                        self.assert_unsaid(msr_number(none, 0, fields), state)
                self.assert_said(msr(2, fields=8), state)
        for one in MODES:
            self.assert_said(msr(2, fields=1), make_state(SVC, regs=[(2, one)]))


class Singles(StepCase):
    def test_r15_as_base_written_back(self):
        for load in (0, 1):
            for byte in (0, 1):
                for pre, back in POST_OR_BACK:
                    self.assert_unsaid(single(load, 1, 15, 8, byte, pre, 1, back), places())
                    self.assert_unsaid(single_by(load, 1, 15, 2, LSL, 0, byte, pre, 1, back), places())
                    self.assert_said(single(load, 1, 14, 8, byte, pre, 1, back), places())
                self.assert_said(single(load, 1, 15, 8, byte), places())
                self.assert_said(single_by(load, 1, 15, 2, LSL, 0, byte), places())

    def test_the_base_itself_written_back(self):
        for load in (0, 1):
            for byte in (0, 1):
                for pre, back in POST_OR_BACK:
                    for up in (0, 1):
                        self.assert_unsaid(single(load, 3, 3, 8, byte, pre, up, back), places())
                        self.assert_unsaid(single(load, 3, 3, 0, byte, pre, up, back), places())
                        self.assert_unsaid(single_by(load, 3, 3, 2, LSL, 0, byte, pre, up, back), places())
                        self.assert_said(single(load, 4, 3, 8, byte, pre, up, back), places())
                        self.assert_said(single_by(load, 4, 3, 3, LSL, 0, byte, pre, up, back), places())
                        self.assert_said(single_by(load, 4, 3, 4, LSL, 0, byte, pre, up, back), places())
                self.assert_said(single(load, 3, 3, 8, byte), places())

    def test_each_base_itself_written_back(self):
        for number in range(15):
            for pre, back in POST_OR_BACK:
                for load in (0, 1):
                    self.assert_unsaid(single(load, number, number, 8, 0, pre, 1, back), places())
                    self.assert_said(single(load, number ^ 8 if number != 7 else 0, number, 8, 0, pre, 1, back), places())
                self.assert_unsaid(half(LDRSB, number, number, 8, pre, 1, back), places())
                self.assert_said(half(LDRSB, number ^ 8 if number != 7 else 0, number, 8, pre, 1, back), places())

    def test_r15_as_index(self):
        for load in (0, 1):
            for byte in (0, 1):
                for pre, back in ((1, 0),) + POST_OR_BACK:
                    self.assert_unsaid(single_by(load, 1, 2, 15, LSR, 3, byte, pre, 1, back), places())
                    self.assert_said(single_by(load, 1, 2, 14, LSR, 3, byte, pre, 1, back), places())
                    self.assert_said(single(load, 1, 2, 0xF, byte, pre, 1, back), places())

    def test_a_byte_of_r15(self):
        for load in (0, 1):
            for pre, back in ((1, 0),) + POST_OR_BACK:
                self.assert_unsaid(single(load, 15, 2, 4, 1, pre, 1, back), places())
                self.assert_unsaid(single(load, 15, 3, 4, 1, pre, 1, back), places())
                self.assert_unsaid(single_by(load, 15, 2, 3, LSL, 0, 1, pre, 1, back), places())
                self.assert_said(single(load, 14, 2, 4, 1, pre, 1, back), places())
                self.assert_said(single(load, 15, 2, 4, 0, pre, 1, back), places(), {0x20200: 0x100, 0x20204: 0x100})

    def test_as_the_user_would(self):
        for load in (0, 1):
            for byte in (0, 1):
                for up in (0, 1):
                    self.assert_unsaid(single(load, 1, 2, 4, byte, 0, up, 1), places())
                    self.assert_unsaid(single_by(load, 1, 2, 3, LSL, 0, byte, 0, up, 1), places())
                    self.assert_said(single(load, 1, 2, 4, byte, 0, up, 0), places())
                    self.assert_said(single(load, 1, 2, 4, byte, 1, up, 1), places())

    def test_bit_4_makes_it_undefined_instead(self):
        for word in (single_by(1, 1, 15, 2, pre=0), single_by(1, 15, 2, 15, byte=1), single_by(0, 3, 3, 2, back=1)):
            self.assert_unsaid(word, make_state())
            self.assert_undefined(word | 0x10, make_state())


class Halfwords(StepCase):
    def each(self):
        return (STRH, LDRH, LDRSB, LDRSH)

    def test_r15_as_base_written_back(self):
        for what in self.each():
            for pre, back in POST_OR_BACK:
                self.assert_unsaid(half(what, 1, 15, 8, pre, 1, back), places())
                self.assert_unsaid(half_by(what, 1, 15, 2, pre, 1, back), places())
                self.assert_said(half(what, 1, 14, 8, pre, 1, back), places())
            self.assert_said(half(what, 1, 15, 8), places())
            self.assert_said(half_by(what, 1, 15, 2), places())

    def test_the_base_itself_written_back(self):
        for what in self.each():
            for pre, back in POST_OR_BACK:
                self.assert_unsaid(half(what, 3, 3, 8, pre, 1, back), places())
                self.assert_unsaid(half_by(what, 3, 3, 2, pre, 0, back), places())
                self.assert_said(half(what, 4, 3, 8, pre, 1, back), places())
                self.assert_said(half_by(what, 4, 3, 3, pre, 1, back), places())
            self.assert_said(half(what, 3, 3, 8), places())

    def test_r15_as_index(self):
        for what in self.each():
            self.assert_unsaid(half_by(what, 1, 2, 15), places())
            self.assert_said(half_by(what, 1, 2, 14), places())
            self.assert_said(half(what, 1, 2, 0x1F), places())

    def test_a_halfword_of_r15(self):
        for what in self.each():
            self.assert_unsaid(half(what, 15, 2, 8), places())
            self.assert_unsaid(half(what, 15, 3, 8), places())
            self.assert_unsaid(half_by(what, 15, 2, 3), places())
            self.assert_said(half(what, 14, 2, 8), places())

    def test_as_the_user_would(self):
        for what in self.each():
            self.assert_unsaid(half(what, 1, 2, 8, 0, 1, 1), places())
            self.assert_unsaid(half_by(what, 1, 2, 3, 0, 0, 1), places())
            self.assert_said(half(what, 1, 2, 8, 0, 1, 0), places())
            self.assert_said(half(what, 1, 2, 8, 1, 1, 1), places())

    def test_kin_that_are_none(self):
        for kind in (2, 3):
            for pre, back in ((1, 0), (1, 1), (0, 0)):
                self.assert_unsaid(half((0, kind), 2, 4, 8, pre, 1, back), places())
                self.assert_unsaid(half_by((0, kind), 2, 4, 6, pre, 1, back), places())
                self.assert_said(half((1, kind), 2, 4, 8, pre, 1, back), places())
        self.assert_said(half((0, 1), 2, 4, 8), places())

    def test_by_a_register_with_bits_11_to_8(self):
        for what in self.each():
            for unused in range(1, 16):
                self.assert_unsaid(half_by(what, 1, 2, 3, unused=unused), places())
                self.assert_said(half(what, 1, 2, unused << 4), places())
            self.assert_said(half_by(what, 1, 2, 3), places())
            self.assert_said(half_by(what, 0, 2, 3), places())


class Many(StepCase):
    def test_of_none(self):
        for load in (0, 1):
            for pre, up, back in ((0, 1, 0), (1, 0, 1), (0, 0, 1), (1, 1, 0)):
                self.assert_unsaid(many(load, 1, (), pre, up, 0, back), places())
                self.assert_said(many(load, 1, (0,), pre, up, 0, back), places())
            self.assert_unsaid(many(load, 1, (), s=1), places())

    def test_from_r15(self):
        for load in (0, 1):
            for back in (0, 1):
                self.assert_unsaid(many(load, 15, (0, 1), back=back), places())
                self.assert_unsaid(many(load, 15, (0, 15), back=back), places())
                self.assert_said(many(load, 14, (0, 1), back=back), places())

    def test_the_base_loaded_and_written_back(self):
        for base in range(15):
            self.assert_unsaid(many(1, base, (base,), back=1), places())
            self.assert_unsaid(many(1, base, range(15), back=1), places())
            self.assert_said(many(1, base, (base,)), places())
            self.assert_said(many(1, base, [k for k in range(15) if k != base], back=1), places())

    def test_the_base_stored_not_first_and_written_back(self):
        for base in range(1, 15):
            self.assert_unsaid(many(0, base, (base - 1, base), back=1), places())
            self.assert_unsaid(many(0, base, (0, base), 1, 0, back=1), places())
            self.assert_unsaid(many(0, base, range(16), back=1), places())
            self.assert_said(many(0, base, range(base, 16), back=1), places())
            self.assert_said(many(0, base, (base - 1, base)), places())
            self.assert_said(many(0, base, (base - 1,), back=1), places())
        self.assert_said(many(0, 0, range(16), back=1), places())

    def test_the_users_with_the_base_written_back(self):
        for mode in MODES_WITH_SAVED:
            self.assert_unsaid(many(0, 1, (2, 3), s=1, back=1), places(mode))
            self.assert_unsaid(many(0, 1, (2, 15), s=1, back=1), places(mode))
            self.assert_unsaid(many(0, 1, (1, 2), s=1, back=1), places(mode))
            self.assert_unsaid(many(1, 1, (2, 3), s=1, back=1), places(mode))
            self.assert_said(many(0, 1, (2, 3), s=1), places(mode))
            self.assert_said(many(0, 1, (2, 15), s=1), places(mode))
            self.assert_said(many(1, 1, (2, 3), s=1), places(mode))
            self.assert_said(many(1, 1, (2, 15), s=1, back=1), places(mode), {0x20104: 0x100})

    def test_the_users_in_users_or_systems_mode(self):
        for mode in (USER, SYSTEM):
            self.assert_unsaid(many(0, 1, (2, 3), s=1), places(mode))
            self.assert_unsaid(many(0, 1, (2, 15), s=1), places(mode))
            self.assert_unsaid(many(1, 1, (2, 3), s=1), places(mode))
            self.assert_said(many(0, 1, (2, 3)), places(mode))
            self.assert_said(many(0, 1, (2, 15)), places(mode))
            self.assert_said(many(1, 1, (2, 3)), places(mode))

    def test_return_in_user_and_system(self):
        for mode in (USER, SYSTEM):
            for back in (0, 1):
                self.assert_unsaid(many(1, 1, (2, 15), s=1, back=back), places(mode))
                self.assert_said(many(1, 1, (2, 15), back=back), places(mode), {0x20104: 0x100})

    def test_return_to_a_mode_that_is_none(self):
        for mode in MODES_WITH_SAVED:
            words = {0x20104: 0x100}
            for none in NONE:
                state = places(mode, saved={mode: none})
                self.assert_unsaid(many(1, 1, (2, 15), s=1), state, words)
                self.assert_said(many(1, 1, (2, 15)), state, words)
                self.assert_said(many(1, 1, (2, 14), s=1), state, words)
                self.assert_said(many(0, 1, (2, 15), s=1), state, words)
            for one in MODES:
                self.assert_said(many(1, 1, (2, 15), s=1), places(mode, saved={mode: one}), words)

    def test_return_with_the_base_loaded(self):
        for mode in MODES_WITH_SAVED:
            words = {0x20104: 0x100}
            self.assert_unsaid(many(1, 1, (1, 15), s=1, back=1), places(mode), words)
            self.assert_said(many(1, 1, (1, 15), s=1), places(mode), words)


class NothingElse(StepCase):
    def test_what_is_undefined_is_not_left_unsaid(self):
        for word in (0xEE000000, 0xE7FFFFFF, 0xE3000000, 0xE12FFF1E, 0xE1910F9F):
            self.assert_undefined(word, make_state(IRQ, I))

    def test_the_refusal_does_not_hang_on_the_mode(self):
        for mode in (FIQ, IRQ, UND, USER):
            self.assert_unsaid(mul(1, 1, 2), places(mode))
            self.assert_unsaid(many(1, 1, ()), places(mode))
            self.assert_unsaid(sum_of(CMN, 1, 0, 15, 0), places(mode))
            self.assert_unsaid(sum_of(TEQ, 1, 0, 15, 0), places(mode))
            self.assert_unsaid(sum_of(TST, 1, 0, 15, 0), places(mode))
            self.assert_unsaid(sum_of(CMP, 1, 0, 15, 0), places(mode))
