"""LDR, STR and of bytes; LDRH, STRH, LDRSB, LDRSH; SWP, SWPB."""

from tests.support import (
    ASR, C, LDRH, LDRSB, LDRSH, LSL, LSR, PC, ROR, STRH, StepCase, WORD, half, half_by, make_state, single, single_by, swp,
)

# Pre or post, up or down, written back; the place and the base behind it, as steps of the offset.
WAYS = [
    (1, 1, 0, 1, 0),
    (1, 0, 0, -1, 0),
    (1, 1, 1, 1, 1),
    (1, 0, 1, -1, -1),
    (0, 1, 0, 0, 1),
    (0, 0, 0, 0, -1),
]


class Words(StepCase):
    def test_load_in_each_way(self):
        for pre, up, back, place, moved in WAYS:
            state = make_state(regs=[(1, 0x4000)])
            words = {0x4000 + 0x124 * place: 0x89ABCDEF}
            changes = {0: 0x89ABCDEF, 1: 0x4000 + 0x124 * moved}
            self.assert_step(single(1, 0, 1, 0x124, 0, pre, up, back), state, changes, words)

    def test_store_in_each_way(self):
        for pre, up, back, place, moved in WAYS:
            state = make_state(regs=[(0, 0x89ABCDEF), (1, 0x4000)])
            after = {0x4000 + 0x124 * place: 0x89ABCDEF}
            self.assert_step(single(0, 0, 1, 0x124, 0, pre, up, back), state, {1: 0x4000 + 0x124 * moved},
                             {0x4000 + 0x124 * place: 0x11223344}, after)

    def test_the_largest_number(self):
        state = make_state(regs=[(1, 0x4000)])
        self.assert_step(single(1, 0, 1, 0xFFC), state, {0: 7}, {0x4FFC: 7})
        self.assert_step(single(1, 0, 1, 0xFFF, byte=1), state, {0: 7}, {0x4FFF: 7})

    def test_load_from_no_multiple_of_4(self):
        for beyond, value in ((0, 0x44332211), (1, 0x11443322), (2, 0x22114433), (3, 0x33221144)):
            state = make_state(regs=[(1, 0x4000 + beyond)])
            self.assert_step(single(1, 0, 1), state, {0: value}, {0x4000: 0x44332211, 0x4004: 0x88776655})

    def test_store_to_no_multiple_of_4(self):
        for beyond in range(4):
            state = make_state(regs=[(0, 0x44332211), (1, 0x4000 + beyond)])
            self.assert_step(single(0, 0, 1), state, {}, {}, {0x4000: 0x44332211})
            self.assert_step(single(0, 0, 1, 4, pre=0), state, {1: 0x4004 + beyond}, {}, {0x4000: 0x44332211})

    def test_places_are_modulo_the_memory(self):
        words = {0: 0x01020304, 0xFFFFC: 0x05060708}
        for base, value in ((0x100000, 0x01020304), (0xFFF00000, 0x01020304), (0xFFFFFFFC, 0x05060708)):
            state = make_state(regs=[(1, base)])
            self.assert_step(single(1, 0, 1), state, {0: value}, words)
            self.assert_step(single(0, 2, 1), state, {}, {}, {base & 0xFFFFF: state[2]})
        state = make_state(regs=[(1, 0)])
        self.assert_step(single(1, 0, 1, 4, up=0, back=1), state, {0: 0x05060708, 1: 0xFFFFFFFC}, words)
        state = make_state(regs=[(1, 0xFFFFFFFC)])
        self.assert_step(single(1, 0, 1, 4, back=1), state, {0: 0x01020304, 1: 0}, words)

    def test_r15_as_base(self):
        self.assert_step(single(1, 0, 15, 0x10), make_state(), {0: 9}, {PC + 0x18: 9})
        self.assert_step(single(1, 0, 15, 0x10, up=0), make_state(), {0: 9}, {PC - 8: 9})
        state = make_state(regs=[(0, 5)])
        self.assert_step(single(0, 0, 15, 0x10), state, {}, {}, {PC + 0x18: 5})

    def test_r15_stored_is_twelve_further(self):
        state = make_state(regs=[(1, 0x4000)])
        self.assert_step(single(0, 15, 1), state, {}, {}, {0x4000: PC + 12})
        self.assert_step(single(0, 15, 1, 8, pre=0), state, {1: 0x4008}, {}, {0x4000: PC + 12})
        self.assert_step(single(0, 15, 15, 0x20), state, {}, {}, {PC + 0x28: PC + 12})
        state = make_state(pc=0xFFFFFFF8, regs=[(1, 0x4000)])
        self.assert_step(single(0, 15, 1), state, {}, {}, {0x4000: 4})

    def test_r15_loaded_is_a_jump(self):
        for low in range(4):
            state = make_state(regs=[(1, 0x4000)])
            self.assert_step(single(1, 15, 1, 4, back=1), state, {15: 0x81234560, 1: 0x4004}, {0x4004: 0x81234560 + low})
        state = make_state(regs=[(1, 0x4001)])
        self.assert_step(single(1, 15, 1), state, {15: 0x44332210}, {0x4000: 0x33221344})

    def test_index_in_each_way(self):
        for pre, up, back, place, moved in WAYS:
            state = make_state(regs=[(1, 0x4000), (2, 0x40)])
            words = {0x4000 + 0x100 * place: 0x89ABCDEF}
            changes = {0: 0x89ABCDEF, 1: 0x4000 + 0x100 * moved}
            self.assert_step(single_by(1, 0, 1, 2, LSL, 2, 0, pre, up, back), state, changes, words)
            state = make_state(regs=[(0, 0x89ABCDEF), (1, 0x4000), (2, 0x40)])
            changes = {1: 0x4000 + 0x100 * moved}
            self.assert_step(single_by(0, 0, 1, 2, LSL, 2, 0, pre, up, back), state, changes, {}, words)

    def test_index_with_each_shift(self):
        rows = [
            (LSL, 0, 0x100, 0, 0x100), (LSL, 3, 0x20, 0, 0x100), (LSR, 4, 0x1000, 0, 0x100), (LSR, 0, WORD, 0, 0),
            (ASR, 2, 0xFFFFFC00, 0, 0xFFFFFF00), (ASR, 0, 0x80000000, 0, WORD), (ASR, 0, 0x7FFFFFFF, 0, 0),
            (ROR, 8, 0x00010001, 0, 0x01000100), (ROR, 0, 0x200, 0, 0x100), (ROR, 0, 0x200, C, 0x80000100),
        ]
        for shift, amount, index, bits, offset in rows:
            state = make_state(bits=bits, regs=[(1, 0x4000), (2, index)])
            words = {(0x4000 + offset) & 0xFFFFC: 0x77777777}
            moved = (0x4000 + offset) & WORD
            self.assert_step(single_by(1, 0, 1, 2, shift, amount, back=1), state, {0: 0x77777777, 1: moved}, words)

    def test_index_that_is_the_base_or_the_value(self):
        state = make_state(regs=[(1, 0x4000)])
        self.assert_step(single_by(1, 0, 1, 1, pre=0), state, {0: 3, 1: 0x8000}, {0x4000: 3})
        self.assert_step(single_by(1, 0, 1, 1, LSR, 12, back=1), state, {0: 3, 1: 0x4004}, {0x4004: 3})
        state = make_state(regs=[(1, 0x4000), (2, 8)])
        self.assert_step(single_by(1, 2, 1, 2, back=1), state, {2: 3, 1: 0x4008}, {0x4008: 3})
        self.assert_step(single_by(0, 2, 1, 2, back=1), state, {1: 0x4008}, {}, {0x4008: 8})

    def test_the_base_may_be_the_value_if_it_stays(self):
        state = make_state(regs=[(1, 0x4000)])
        self.assert_step(single(1, 1, 1, 4), state, {1: 3}, {0x4004: 3})
        self.assert_step(single(0, 1, 1, 4), state, {}, {}, {0x4004: 0x4000})


    def test_each_number_in_each_field(self):
        for k in range(15):
            rd, rn, rm = k, (k + 4) % 15, (k + 9) % 15
            state = make_state(regs=[(rd, 0xCAFE), (rn, 0x4000), (rm, 0x80000)])
            self.assert_step(single_by(1, rd, rn, rm, LSR, 17), state, {rd: 9}, {0x4004: 9})
            self.assert_step(single_by(0, rd, rn, rm, LSR, 17, back=1), state, {rn: 0x4004}, {}, {0x4004: 0xCAFE})
            self.assert_step(single(1, rd, rn, 8, pre=0), state, {rd: 9, rn: 0x4008}, {0x4000: 9})
            self.assert_step(single(0, rd, rn, 8, byte=1), state, {}, {}, {0x4008: 0xFE})

    def test_load_from_places_never_poked(self):
        state = make_state(regs=[(1, 0x4000)])
        self.assert_step(single(1, 0, 1), state, {0: 0})
        self.assert_step(single(1, 0, 1, byte=1), state, {0: 0})
        self.assert_step(half(LDRH, 0, 1), state, {0: 0})


class Bytes(StepCase):
    def test_load_in_each_way(self):
        for pre, up, back, place, moved in WAYS:
            state = make_state(regs=[(1, 0x4002)])
            words = {0x4002 + 0x121 * place: 0x776655F3}
            changes = {0: 0xF3, 1: 0x4002 + 0x121 * moved}
            self.assert_step(single(1, 0, 1, 0x121, 1, pre, up, back), state, changes, words)

    def test_store_in_each_way(self):
        for pre, up, back, place, moved in WAYS:
            state = make_state(regs=[(0, 0x89ABCDEF), (1, 0x4002)])
            self.assert_step(single(0, 0, 1, 0x121, 1, pre, up, back), state, {1: 0x4002 + 0x121 * moved},
                             {0x4002 + 0x121 * place: 0x11223344}, {0x4002 + 0x121 * place: 0x112233EF})

    def test_by_an_index(self):
        state = make_state(regs=[(0, 0x89ABCDEF), (1, 0x4000), (2, 6)])
        self.assert_step(single_by(1, 0, 1, 2, LSR, 1, byte=1), state, {0: 0xAA}, {0x4003: 0x000000AA})
        self.assert_step(single_by(0, 0, 1, 2, LSR, 1, byte=1), state, {}, {}, {0x4003: 0xEF})

    def test_each_place_by_itself(self):
        for beyond, value in enumerate((0x11, 0x22, 0x33, 0x44)):
            state = make_state(regs=[(1, 0xABC00000 + beyond)])
            self.assert_step(single(1, 0, 1, byte=1), state, {0: value}, {0: 0x44332211})


class Halfwords(StepCase):
    def test_in_each_way(self):
        for pre, up, back, place, moved in WAYS:
            for what, value in ((LDRH, 0x9283), (LDRSB, 0xFFFFFF83), (LDRSH, 0xFFFF9283)):
                state = make_state(regs=[(1, 0x4000), (2, 0xA4)])
                words = {0x4000 + 0xA4 * place: 0x77669283}
                changes = {0: value, 1: 0x4000 + 0xA4 * moved}
                self.assert_step(half(what, 0, 1, 0xA4, pre, up, back), state, changes, words)
                self.assert_step(half_by(what, 0, 1, 2, pre, up, back), state, changes, words)
            state = make_state(regs=[(0, 0x89ABCDEF), (1, 0x4000), (2, 0xA4)])
            changes = {1: 0x4000 + 0xA4 * moved}
            before, after = {0x4000 + 0xA4 * place: 0x11223344}, {0x4000 + 0xA4 * place: 0x1122CDEF}
            self.assert_step(half(STRH, 0, 1, 0xA4, pre, up, back), state, changes, before, after)
            self.assert_step(half_by(STRH, 0, 1, 2, pre, up, back), state, changes, before, after)

    def test_each_number_in_each_field(self):
        for k in range(15):
            rd, rn, rm = k, (k + 4) % 15, (k + 9) % 15
            state = make_state(regs=[(rd, 0xCAFE), (rn, 0x4000), (rm, 8)])
            self.assert_step(half_by(LDRH, rd, rn, rm), state, {rd: 9}, {0x4008: 9})
            self.assert_step(half_by(STRH, rd, rn, rm, back=1), state, {rn: 0x4008}, {}, {0x4008: 0xCAFE})

    def test_signs(self):
        for stored, whole, byte, with_sign in (
                (0x0000, 0, 0, 0), (0x007F, 0x7F, 0x7F, 0x7F), (0x0080, 0x80, 0xFFFFFF80, 0x80),
                (0x7FFF, 0x7FFF, WORD, 0x7FFF), (0x8000, 0x8000, 0, 0xFFFF8000), (0xFFFF, 0xFFFF, WORD, WORD)):
            state = make_state(regs=[(1, 0x4000)])
            for what, value in ((LDRH, whole), (LDRSB, byte), (LDRSH, with_sign)):
                self.assert_step(half(what, 0, 1), state, {0: value}, {0x4000: stored})

    def test_the_places_low_bit_is_passed_over(self):
        words = {0x4000: 0x94837261}
        for beyond, value in ((0, 0x7261), (1, 0x7261), (2, 0x9483), (3, 0x9483)):
            state = make_state(regs=[(0, 0xAAAABBCC), (1, 0x4000 + beyond)])
            self.assert_step(half(LDRH, 0, 1), state, {0: value}, words)
            extended = value | 0xFFFF0000 if value >> 15 else value
            self.assert_step(half(LDRSH, 0, 1), state, {0: extended}, words)
            after = 0x9483BBCC if beyond < 2 else 0xBBCC7261
            self.assert_step(half(STRH, 0, 1), state, {}, words, {0x4000: after})

    def test_bytes_with_sign_have_places_of_their_own(self):
        for beyond, value in enumerate((0x61, 0x72, 0xFFFFFF83, 0xFFFFFF94)):
            state = make_state(regs=[(1, 0x4000 + beyond)])
            self.assert_step(half(LDRSB, 0, 1), state, {0: value}, {0x4000: 0x94837261})

    def test_the_largest_number(self):
        state = make_state(regs=[(1, 0x4001)])
        self.assert_step(half(LDRH, 0, 1, 0xFF), state, {0: 0x1234}, {0x4100: 0x1234})

    def test_places_are_modulo_the_memory(self):
        state = make_state(regs=[(0, 0xBEEF), (1, 0xFFFFFFFE)])
        self.assert_step(half(LDRH, 0, 1), state, {0: 0xABCD}, {0xFFFFC: 0xABCD0000})
        self.assert_step(half(STRH, 0, 1), state, {}, {}, {0xFFFFC: 0xBEEF0000})
        self.assert_step(half(LDRH, 0, 1, 2, back=1), state, {0: 0x1234, 1: 0}, {0: 0x1234})

    def test_r15_as_base(self):
        self.assert_step(half(LDRH, 0, 15, 0x10), make_state(), {0: 9}, {PC + 0x18: 9})
        state = make_state(regs=[(0, 5)])
        self.assert_step(half(STRH, 0, 15, 0x10, up=0), state, {}, {}, {PC - 8: 5})

    def test_the_base_may_be_the_value_if_it_stays(self):
        state = make_state(regs=[(1, 0x4000)])
        self.assert_step(half(LDRSH, 1, 1, 4), state, {1: 3}, {0x4004: 3})
        self.assert_step(half(STRH, 1, 1, 4), state, {}, {}, {0x4004: 0x4000})

    def test_index_that_is_the_base(self):
        state = make_state(regs=[(1, 0x4000)])
        self.assert_step(half_by(LDRH, 0, 1, 1, pre=0), state, {0: 3, 1: 0x8000}, {0x4000: 3})


class Exchanges(StepCase):
    def test_words(self):
        state = make_state(regs=[(1, 0x4000), (2, 0xCAFEBABE)])
        self.assert_step(swp(0, 2, 1), state, {0: 0x44332211}, {0x4000: 0x44332211}, {0x4000: 0xCAFEBABE})
        self.assert_step(swp(2, 2, 1), state, {2: 0x44332211}, {0x4000: 0x44332211}, {0x4000: 0xCAFEBABE})

    def test_each_number_in_each_field(self):
        for k in range(15):
            rd, rn, rm = k, (k + 4) % 15, (k + 9) % 15
            state = make_state(regs=[(rm, 0xCAFE), (rn, 0x4000)])
            self.assert_step(swp(rd, rm, rn), state, {rd: 9}, {0x4000: 9}, {0x4000: 0xCAFE})

    def test_words_at_no_multiple_of_4(self):
        for beyond, value in ((1, 0x11443322), (2, 0x22114433), (3, 0x33221144)):
            state = make_state(regs=[(1, 0x4000 + beyond), (2, 0xCAFEBABE)])
            self.assert_step(swp(0, 2, 1), state, {0: value}, {0x4000: 0x44332211}, {0x4000: 0xCAFEBABE})

    def test_bytes(self):
        for beyond, value, after in ((0, 0x11, 0x443322BE), (1, 0x22, 0x4433BE11), (3, 0x44, 0xBE332211)):
            state = make_state(regs=[(1, 0x4000 + beyond), (2, 0xCAFEBABE)])
            self.assert_step(swp(0, 2, 1, byte=1), state, {0: value}, {0x4000: 0x44332211}, {0x4000: after})

    def test_one_register_for_both(self):
        state = make_state(regs=[(1, 0x4000), (2, 0xCAFEBABE)])
        self.assert_step(swp(2, 2, 1, byte=1), state, {2: 0x11}, {0x4000: 0x44332211}, {0x4000: 0x443322BE})

    def test_places_are_modulo_the_memory(self):
        state = make_state(regs=[(1, 0x300000), (2, 6)])
        self.assert_step(swp(0, 2, 1), state, {0: 5}, {0: 5}, {0: 6})
