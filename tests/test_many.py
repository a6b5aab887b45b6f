"""LDM, STM in all their ways."""

from tests.support import (
    ABT, BANK, C, F, FIQ, HIGH, I, IRQ, N, PC, STATUS, SVC, SYSTEM, StepCase, UND, USER, V, Z, make_state, many,
)

# Pre, up; the lowest place and the base behind it, for three words from 0x4000.
WAYS = [
    (0, 1, 0x4000, 0x400C),
    (1, 1, 0x4004, 0x400C),
    (0, 0, 0x3FF8, 0x3FF4),
    (1, 0, 0x3FF4, 0x3FF4),
]


def three_words(lowest, first, second, third):
    return {lowest: first, lowest + 4: second, lowest + 8: third}


class Plain(StepCase):
    def test_load_in_each_way(self):
        for pre, up, lowest, moved in WAYS:
            for back in (0, 1):
                state = make_state(regs=[(5, 0x4000)])
                changes = {0: 0x11111111, 3: 0x22222222, 12: 0x33333333, 5: moved if back else 0x4000}
                self.assert_step(many(1, 5, (0, 3, 12), pre, up, 0, back), state, changes,
                                 three_words(lowest, 0x11111111, 0x22222222, 0x33333333))

    def test_store_in_each_way(self):
        for pre, up, lowest, moved in WAYS:
            for back in (0, 1):
                state = make_state(regs=[(5, 0x4000)])
                after = three_words(lowest, state[0], state[3], state[12])
                self.assert_step(many(0, 5, (0, 3, 12), pre, up, 0, back), state,
                                 {5: moved if back else 0x4000}, {}, after)

    def test_one(self):
        state = make_state(regs=[(5, 0x4000)])
        self.assert_step(many(1, 5, (14,), 0, 1, 0, 1), state, {14: 7, 5: 0x4004}, {0x4000: 7})
        self.assert_step(many(0, 5, (14,), 1, 0, 0, 1), state, {5: 0x3FFC}, {}, {0x3FFC: state[14]})

    def test_all_sixteen(self):
        state = make_state(regs=[(0, 0x4000)])
        words = {0x4000 + 4 * k: 0x1000 * k + 3 for k in range(16)}
        changes = {k: 0x1000 * k + 3 for k in range(15)}
        changes[15] = 0xF000
        self.assert_step(many(1, 0, range(16)), state, changes, words)
        after = {0x4000 + 4 * k: state[k] for k in range(15)}
        after[0x403C] = PC + 12
        self.assert_step(many(0, 0, range(16), back=1), state, {0: 0x4040}, {}, after)
        after = {0x3FC0 + 4 * k: state[k] for k in range(15)}
        after[0x3FFC] = PC + 12
        self.assert_step(many(0, 0, range(16), 1, 0, back=1), state, {0: 0x3FC0}, {}, after)

    def test_the_places_low_bits_are_passed_over(self):
        for beyond in range(4):
            for pre, up, lowest, moved in WAYS:
                state = make_state(regs=[(5, 0x4000 + beyond)])
                changes = {0: 0x44332211, 1: 0x22222222, 2: 0x33333333, 5: moved + beyond}
                words = three_words(lowest, 0x44332211, 0x22222222, 0x33333333)
                self.assert_step(many(1, 5, (0, 1, 2), pre, up, 0, 1), state, changes, words)
                after = three_words(lowest, state[0], state[1], state[2])
                self.assert_step(many(0, 5, (0, 1, 2), pre, up, 0, 1), state, {5: moved + beyond}, {}, after)

    def test_places_are_modulo_the_memory(self):
        state = make_state(regs=[(5, 0xFFFFC)])
        self.assert_step(many(1, 5, (0, 1), back=1), state, {0: 1, 1: 2, 5: 0x100004}, {0xFFFFC: 1, 0: 2})
        self.assert_step(many(0, 5, (0, 1), back=1), state, {5: 0x100004}, {}, {0xFFFFC: state[0], 0: state[1]})
        state = make_state(regs=[(5, 4)])
        self.assert_step(many(1, 5, (0, 1), 1, 0, back=1), state, {0: 1, 1: 2, 5: 0xFFFFFFFC}, {0xFFFFC: 1, 0: 2})
        state = make_state(regs=[(5, 0xFFFFFFFC)])
        self.assert_step(many(1, 5, (0, 1), back=1), state, {0: 1, 1: 2, 5: 4}, {0xFFFFC: 1, 0: 2})
        self.assert_step(many(1, 5, (0, 1), 1, 1), state, {0: 2, 1: 3}, {0: 2, 4: 3})

    def test_r15_stored_is_twelve_further(self):
        state = make_state(regs=[(5, 0x4000)])
        self.assert_step(many(0, 5, (2, 15)), state, {}, {}, {0x4000: state[2], 0x4004: PC + 12})
        state = make_state(pc=0xFFFFFFFC, regs=[(5, 0x4000)])
        self.assert_step(many(0, 5, (15,)), state, {}, {}, {0x4000: 8})

    def test_r15_loaded_is_a_jump(self):
        for low in range(4):
            state = make_state(USER, regs=[(13, 0x4000)])
            words = {0x4000: 5, 0x4004: 0xFEDCBA90 + low}
            self.assert_step(many(1, 13, (4, 15), back=1), state, {4: 5, 15: 0xFEDCBA90, 13: 0x4008}, words)

    def test_the_base_loaded_and_not_written_back(self):
        state = make_state(regs=[(5, 0x4000)])
        self.assert_step(many(1, 5, (4, 5, 6)), state, {4: 1, 5: 2, 6: 3}, three_words(0x4000, 1, 2, 3))

    def test_the_base_stored_first_is_stored_as_it_was(self):
        state = make_state(regs=[(5, 0x4000)])
        for pre, up, lowest, moved in WAYS:
            after = three_words(lowest, 0x4000, state[6], state[7])
            self.assert_step(many(0, 5, (5, 6, 7), pre, up, 0, 1), state, {5: moved}, {}, after)
            self.assert_step(many(0, 5, (5, 6, 7), pre, up, 0, 0), state, {}, {}, after)

    def test_the_base_stored_later_and_not_written_back(self):
        state = make_state(regs=[(5, 0x4000)])
        self.assert_step(many(0, 5, (3, 4, 5)), state, {}, {}, three_words(0x4000, state[3], state[4], 0x4000))

    def test_the_ones_of_the_mode_in_use(self):
        for mode in (USER, FIQ, IRQ, SVC, ABT, UND, SYSTEM):
            state = make_state(mode, regs=[(0, 0x4000)])
            after = {0x4000 + 4 * k: state[8 + k] for k in range(7)}
            self.assert_step(many(0, 0, range(8, 15)), state, {}, {}, after)
            changes = {8 + k: k + 1 for k in range(7)}
            self.assert_step(many(1, 0, range(8, 15)), state, changes, {0x4000 + 4 * k: k + 1 for k in range(7)})


class OfTheUser(StepCase):
    def test_stored(self):
        for mode in (IRQ, SVC, ABT, UND):
            state = make_state(mode, regs=[(5, 0x4000)])
            after = {0x4000: state[7], 0x4004: state[8], 0x4008: state[12]}
            after.update({0x400C: state[BANK[USER]], 0x4010: state[BANK[USER] + 1], 0x4014: PC + 12})
            self.assert_step(many(0, 5, (7, 8, 12, 13, 14, 15), s=1), state, {}, {}, after)

    def test_stored_in_fiq(self):
        state = make_state(FIQ, regs=[(5, 0x4000)])
        after = {0x4000: state[7], 0x4018: state[BANK[USER]], 0x401C: state[BANK[USER] + 1], 0x4020: PC + 12}
        for k in range(5):
            after[0x4004 + 4 * k] = state[HIGH + k]
        self.assert_step(many(0, 5, range(7, 16), s=1), state, {}, {}, after)

    def test_loaded(self):
        for mode in (IRQ, SVC, ABT, UND):
            state = make_state(mode, regs=[(5, 0x4000)])
            changes = {7: 1, 8: 2, 12: 3, BANK[USER]: 4, BANK[USER] + 1: 5}
            words = {0x4000 + 4 * k: k + 1 for k in range(5)}
            self.assert_step(many(1, 5, (7, 8, 12, 13, 14), s=1), state, changes, words)

    def test_loaded_in_fiq(self):
        state = make_state(FIQ, regs=[(5, 0x4000)])
        changes = {7: 1, BANK[USER]: 7, BANK[USER] + 1: 8}
        for k in range(5):
            changes[HIGH + k] = k + 2
        self.assert_step(many(1, 5, range(7, 15), s=1), state, changes, {0x4000 + 4 * k: k + 1 for k in range(8)})

    def test_the_base_is_that_of_the_mode_in_use(self):
        state = make_state(SVC, regs=[(13, 0x4000)])
        self.assert_step(many(1, 13, (13,), s=1), state, {BANK[USER]: 7}, {0x4000: 7})
        self.assert_step(many(0, 13, (13,), s=1), state, {}, {}, {0x4000: state[BANK[USER]]})
        state = make_state(FIQ, regs=[(9, 0x4000)])
        self.assert_step(many(1, 9, (9,), s=1), state, {HIGH + 1: 7}, {0x4000: 7})
        self.assert_step(many(0, 9, (9,), s=1), state, {}, {}, {0x4000: state[HIGH + 1]})

    def test_in_each_way(self):
        for pre, up, lowest, moved in WAYS:
            state = make_state(IRQ, regs=[(5, 0x4000)])
            changes = {4: 1, BANK[USER]: 2, BANK[USER] + 1: 3}
            self.assert_step(many(1, 5, (4, 13, 14), pre, up, s=1), state, changes, three_words(lowest, 1, 2, 3))

    def test_low_ones_are_shared(self):
        state = make_state(FIQ, regs=[(5, 0x4000)])
        self.assert_step(many(1, 5, (0, 5, 7), s=1), state, {0: 1, 5: 2, 7: 3}, three_words(0x4000, 1, 2, 3))


class Returns(StepCase):
    def test_into_another_mode(self):
        state = make_state(SVC, I, regs=[(13, 0x4000)], saved={SVC: N | C | USER})
        changes = {
            0: 5, 15: 0x9000, STATUS: N | C | USER, 13: state[BANK[USER]], 14: state[BANK[USER] + 1],
            BANK[SVC]: 0x400C, BANK[SVC] + 1: 6}
        self.assert_step(many(1, 13, (0, 14, 15), s=1, back=1), state, changes, three_words(0x4000, 5, 6, 0x9003))

    def test_into_the_mode_in_use(self):
        state = make_state(IRQ, I | F, regs=[(5, 0x4000)], saved={IRQ: V | IRQ})
        changes = {13: 5, 14: 6, 15: 0x9000, STATUS: V | IRQ, BANK[IRQ]: 5, BANK[IRQ] + 1: 6}
        self.assert_step(many(1, 5, (13, 14, 15), s=1), state, changes, three_words(0x4000, 5, 6, 0x9000))

    def test_out_of_fiq_the_ones_of_fiq_are_loaded(self):
        state = make_state(FIQ, I | F, regs=[(13, 0x4000)], saved={FIQ: Z | SYSTEM})
        changes = {15: 0x9000, STATUS: Z | SYSTEM, 13: state[BANK[SYSTEM]], 14: state[BANK[SYSTEM] + 1]}
        for k in range(5):
            changes[8 + k] = state[HIGH + k]
        for k in range(7):
            changes[HIGH + k] = state[8 + k]
        changes[HIGH] = 5
        changes[HIGH + 5] = 0x4008
        self.assert_step(many(1, 13, (8, 15), s=1, back=1), state, changes, {0x4000: 5, 0x4004: 0x9001})

    def test_without_s_it_is_a_jump_alone(self):
        state = make_state(SVC, I, regs=[(13, 0x4000)])
        self.assert_step(many(1, 13, (15,)), state, {15: 0x9000}, {0x4000: 0x9000})

    def test_r15_alone(self):
        state = make_state(UND, regs=[(2, 0x4004)], saved={UND: UND | N})
        changes = {15: 0x9000, 2: 0x4000, STATUS: UND | N, BANK[UND]: state[13], BANK[UND] + 1: state[14]}
        self.assert_step(many(1, 2, (15,), 1, 0, 1, 1), state, changes, {0x4000: 0x9000})
