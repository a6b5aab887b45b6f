"""B, BL, where R15 is, and what is the undefined exception."""

from tests.support import (
    CMP, FIQ, HIGH, I, IRQ, MOV, PC, SAVED, STATUS, SVC, StepCase, UND, USER, jump, make_state, mrs, msr, msr_number,
    sum_by_number, sum_of, swp,
)


class Jumps(StepCase):
    def test_forward_and_back(self):
        for offset, target in ((0, PC + 8), (1, PC + 12), (0x100, PC + 0x408), (0xFFFFFF, PC + 4), (0xFFFFFE, PC),
                               (0xFFFFF0, PC - 0x38), (0x7FFFFF, PC + 8 + 0x1FFFFFC), (0x800000, 0xFE008008)):
            self.assert_step(jump(offset), make_state(), {15: target})
            self.assert_step(jump(offset, link=1), make_state(), {15: target, 14: PC + 4})

    def test_modulo_a_word(self):
        self.assert_step(jump(0, 1), make_state(pc=0xFFFFFFFC), {15: 4, 14: 0})
        self.assert_step(jump(0xFFFFFC, 1), make_state(pc=0), {15: 0xFFFFFFF8, 14: 4})

    def test_r14_of_the_mode_in_use(self):
        self.assert_step(jump(0, 1), make_state(FIQ), {15: PC + 8, 14: PC + 4})


class Fetch(StepCase):
    def test_r15_goes_on_by_four_modulo_a_word(self):
        self.assert_step(0xE1A00000, make_state(pc=0), {15: 4})
        self.assert_step(0xE1A00000, make_state(pc=0xFFFFFFFC), {15: 0})

    def test_the_place_is_modulo_the_memory(self):
        for pc in (0x100000, 0x1FFFFC, 0xFFF00010, 0xFFFFC):
            self.assert_step(sum_by_number(MOV, 0, 0, 0, 1), make_state(pc=pc), {0: 1, 15: pc + 4})

    def test_memory_that_is_0_is_an_instruction_not_due_or_due(self):
        state = make_state(regs=[(0, 6)])
        self.assert_step(0, state, {})
        state = make_state(bits=1 << 30, regs=[(0, 6)])
        self.assert_step(0, state, {0: 6})


class KnownWords(StepCase):
    """Words as an assembler makes them, so that the tests' own ways to make words are tested too."""

    def test_some(self):
        state = make_state(regs=[(0, 1), (1, 20), (2, 3), (3, 4)])
        self.assert_step(0xE0810002, state, {0: 23})
        self.assert_step(0xE3A0002A, state, {0: 42})
        self.assert_step(0xE0000291, state, {0: 60})
        self.assert_step(0xE0203291, state, {0: 64})
        self.assert_step(0xE0810392, state, {0: 12, 1: 0})
        self.assert_step(0xE1510002, state, {STATUS: 0x20000000 | SVC})
        self.assert_step(0xE10F0000, state, {0: SVC})
        self.assert_step(0xE1A0F00E, make_state(regs=[(14, 0x100)]), {15: 0x100})

    def test_transfers(self):
        state = make_state(regs=[(0, 0x12345678), (1, 0x4000), (13, 0x5000), (14, 0x600)])
        self.assert_step(0xE5910004, state, {0: 9}, {0x4004: 9})
        self.assert_step(0xE4C10001, state, {1: 0x4001}, {}, {0x4000: 0x78})
        self.assert_step(0xE1D100B2, state, {0: 9}, {0x4000: 0x00090000})
        self.assert_step(0xE92D4001, state, {13: 0x4FF8}, {}, {0x4FF8: 0x12345678, 0x4FFC: 0x600})
        self.assert_step(0xE8BD8001, state, {13: 0x5008, 0: 1, 15: 0x700}, {0x5000: 1, 0x5004: 0x700})
        self.assert_step(0xE1012090, state, {2: 5}, {0x4000: 5}, {0x4000: 0x12345678})


UNDEFINED = {
    "coprocessors": (0xEC000000, 0xEC400000, 0xEC500000, 0xED812345, 0xEDFFFFFF, 0xEE000000, 0xEE000010, 0xEE1FFFFF,
                     0xEEFFFFFF, 0xEE070F9A, 0xEE100F10),
    "bits 27 to 25 011 with bit 4": (0xE6000010, 0xE7FFFFFF, 0xE7F000F0, 0xE6B1F01F, 0xE711F012),
    "bits 27 to 20 00110x00": (0xE3000000, 0xE3400000, 0xE30FF0FF, 0xE34FFFFF),
    "MSR and its kin with bits 7 to 4": (0xE12FFF1E, 0xE12FFF3E, 0xE16F0F11, 0xE1200070, 0xE1200050, 0xE129F010,
                                         0xE129F020, 0xE129F040, 0xE129F080, 0xE169F0E0, 0xE121F0A0),
    "MRS and its kin with bits 7 to 4": (0xE10F0010, 0xE10F0020, 0xE10F0040, 0xE10F0080, 0xE14F00C0, 0xE1020053,
                                         0xE10000E0),
    "SWP with bits 11 to 8": (0xE1010192, 0xE1010892, 0xE1410F92, 0xE1011191, 0xE14FFF9F),
    "1001 where nothing is": (0xE1110092, 0xE1210092, 0xE1310092, 0xE1510092, 0xE1610092, 0xE1710092, 0xE1810092,
                              0xE1910092, 0xE1A10092, 0xE1B10092, 0xE1C10092, 0xE1D10092, 0xE1E10092, 0xE1F10092,
                              0xE1910F9F, 0xE1810F92),
}


class Undefined(StepCase):
    def test_all_else(self):
        for name, words in UNDEFINED.items():
            for word in words:
                with self.subTest(name, word=hex(word)):
                    self.assert_undefined(word, make_state(SVC))
                    self.assert_undefined(word, make_state(USER, I))
                    self.assert_undefined(word, make_state(UND, I))

    def test_out_of_fiq(self):
        state = make_state(FIQ)
        changes = {15: 4, 14: PC + 4, 13: state[31], STATUS: UND | I, SAVED[UND]: FIQ}
        for k in range(5):
            changes[8 + k] = state[HIGH + k]
        for k in range(7):
            changes[HIGH + k] = state[8 + k]
        self.assert_step(0xE6000010, state, changes)

    def test_neighbours_that_are_instructions(self):
        state = make_state(IRQ, regs=[(1, 0x4000), (2, 3)])
        self.assert_said(0xEF000000, state)
        self.assert_said(0xE6010002, state)
        self.assert_said(msr_number(IRQ, fields=1), state)
        self.assert_said(sum_of(CMP, 1, 1, 0, 2), state)
        self.assert_said(swp(0, 2, 1), state)
        self.assert_said(msr(2, fields=8), state)
        self.assert_said(mrs(0), state)
