"""arm_run: so many steps, fewer where one is left unsaid."""

import unittest

from condwords.machine import arm_run, arm_step
from tests.support import (
    ABT, ADC, ADD, BANK, C, CMP, EOR, F, FIQ, I, IRQ, LDRH, LDRSB, LDRSH, LSL, MODES, MOV, MVN, N, ORR, PC, ROR, SAVED,
    STATUS, STRH, SUB, SVC, SYSTEM, UND, USER, V, WORD, Z, cleaned, half, half_by, jump, long_product, make_state, many,
    mla, mrs, msr, msr_number, mul, program_pokes, single, single_by, sum_by_number, sum_of, sum_shifted_by, swp,
    word_pokes,
)

SWI = 0xEF000001
COPROCESSOR = 0xEE000000
PASS = 0xE1A00000
RETURN = sum_of(MOV, 1, 0, 15, 14)
UNSAID = WORD
DATA = 0x4000
LOOKS = [place for start in (0, DATA - 32, PC - 4) for place in range(start, start + 96)]

EACH_KIND = (
    PASS, sum_by_number(ADD, 1, 1, 0, 255, 4), sum_of(SUB, 1, 2, 3, 4, ROR, 0), sum_shifted_by(EOR, 1, 2, 3, 4, LSL, 5),
    sum_by_number(CMP, 1, 1, 0, 1), sum_of(MOV, 0, 0, 15, 9), sum_of(MOV, 1, 0, 15, 9),
    mul(4, 2, 3, s=1), mla(4, 2, 3, 5), long_product(0, 0, 4, 5, 2, 3), long_product(1, 1, 4, 5, 2, 3, s=1),
    swp(0, 2, 1), swp(0, 2, 1, byte=1), mrs(0), mrs(0, saved=1), msr(6), msr(6, saved=1), msr_number(0xF0, 4, fields=8),
    single(1, 0, 1, 5), single(0, 0, 1, 4, back=1), single(1, 0, 1, 2, byte=1, pre=0), single(0, 0, 1, 3, byte=1),
    single_by(1, 0, 1, 7, LSL, 2), single(1, 15, 1), single(0, 15, 1),
    half(LDRH, 0, 1, 2), half(STRH, 0, 1, 6, back=1), half(LDRSB, 0, 1, 3), half_by(LDRSH, 0, 1, 7),
    many(1, 1, [0, 2, 13, 14]), many(0, 1, [1, 2, 8, 13, 15], back=1), many(1, 1, [0, 15]), many(1, 1, [0, 15], s=1),
    many(0, 1, [8, 13, 14], pre=1, up=0, s=1), many(1, 1, [8, 13, 14], s=1), jump(5), jump(0xFFFFF0, link=1), SWI,
    COPROCESSOR, 0x0A000010, 0x1A000010, 0x02800001, 0xC2800001,
)

EACH_UNSAID = (
    WORD, 0xF0000000, mul(1, 1, 2), mul(15, 2, 3), mul(1, 2, 3, unused=1), mla(1, 1, 2, 3), long_product(0, 0, 1, 1, 2, 3),
    0xE0400090, swp(1, 2, 1), swp(15, 2, 1), mrs(15), 0xE10F0001, msr(15), msr(2, fields=0), msr(2, fields=2),
    msr_number(0x14), sum_by_number(CMP, 1, 1, 15, 1), sum_shifted_by(MOV, 0, 0, 1, 15, LSL, 2), single(1, 1, 1, 4, back=1),
    single(0, 1, 15, 4, pre=0), single(1, 15, 1, byte=1), single(1, 0, 1, pre=0, back=1), single_by(1, 0, 1, 15),
    half(LDRH, 15, 1), half((0, 2), 0, 1), half_by(LDRH, 0, 1, 2, unused=1), many(1, 1, []), many(0, 15, [1]),
    many(0, 1, [0, 1], back=1), many(1, 1, [1, 2], back=1), many(0, 1, [2], s=1, back=1),
)


def rich_state(mode=SVC, bits=0):
    """A state in which each of EACH_KIND is done: places in R1 and R9, a status in R6, a small index in R7."""
    regs = [(1, DATA), (6, N | C | IRQ), (7, 4), (9, 0x9000)]
    return make_state(mode, bits, regs=regs, saved={SVC: Z | V | SYSTEM, FIQ: USER | I, IRQ: SVC, ABT: FIQ, UND: USER})


def rich_pokes():
    pokes = []
    for k in range(-32, 64):
        pokes += [DATA + k, (37 * k + 129) % 256]
    return pokes


def step_by_step(steps, state, pokes, looks):
    """What so many calls of arm_step come to, each with the state and the memory that the one before it left."""
    memory = dict(zip(pokes[0::2], pokes[1::2]))
    places = sorted(set(memory) | set(looks))
    done = 0
    while done < steps:
        answered = arm_step(state, [number for poke in memory.items() for number in poke], places)
        if answered == [-1]:
            break
        done += 1
        state = answered[1:40]
        memory = dict(zip(places, answered[40:]))
    return [done] + cleaned(state) + [memory.get(place, 0) for place in looks]


class RunCase(unittest.TestCase):
    def assert_ends(self, words, done, changes, steps=1000, state=None, words_after=None):
        """The program stops behind so many steps, with just these changes."""
        state = state or make_state()
        expected = cleaned(state)
        expected[15] = (state[15] + 4 * done) & WORD
        for k, value in changes.items():
            expected[k] = value
        memory = program_pokes(words)
        for place, value in (words_after or {}).items():
            memory += word_pokes(place, value)
        held = dict(zip(memory[0::2], memory[1::2]))
        answered = arm_run(steps, state, program_pokes(words), LOOKS)
        self.assertEqual([hex(number) for number in answered[:40]], [hex(number) for number in [done] + expected])
        self.assertEqual(answered[40:], [held.get(place, 0) for place in LOOKS])

    def assert_like_steps(self, words, most, state, pokes=()):
        """Each number of steps up to the most comes to what so many single steps come to."""
        pokes = list(pokes) + program_pokes(words)
        for steps in range(most + 1):
            self.assertEqual(arm_run(steps, state, pokes, LOOKS), step_by_step(steps, state, pokes, LOOKS), steps)


class NoStep(unittest.TestCase):
    def test_the_state_as_it_was(self):
        for mode in MODES:
            for bits in (0, N | C | I, Z | V | F):
                state = make_state(mode, bits)
                for word in (PASS, SWI, single(0, 0, 1), UNSAID):
                    pokes = word_pokes(PC, word) + [5, 77]
                    answered = arm_run(0, state, pokes, [5, 6, PC + 3])
                    self.assertEqual(answered, [0] + state + [77, 0, word >> 24])

    def test_the_statuses_other_bits_are_0(self):
        state = make_state(SVC, 0x0FFFFF20 | N)
        for k in range(34, 39):
            state[k] = WORD - k
        answered = arm_run(0, state, word_pokes(PC, PASS), [])
        self.assertEqual(answered, [0] + state[:33] + [N | SVC] + [(WORD - k) & 0xF00000DF for k in range(34, 39)])

    def test_each_of_the_other_bits_in_each_status(self):
        for number in [5] + list(range(8, 28)):
            for k in range(33, 39):
                state = make_state(SVC)
                state[k] |= 1 << number
                self.assertEqual(arm_run(0, state, [], []), [0] + make_state(SVC))

    def test_no_mode_is_taken_up(self):
        for mode in MODES:
            state = make_state(mode)
            self.assertEqual(arm_run(0, state, [], [])[1:], state)

    def test_a_saved_status_may_have_any_mode(self):
        for mode in range(32):
            state = make_state(SVC, saved={SVC: mode, FIQ: mode})
            self.assertEqual(arm_run(0, state, [], []), [0] + state)


class OneStep(unittest.TestCase):
    def test_each_kind_in_each_mode(self):
        done = 0
        for mode in MODES:
            for bits in (0, Z | C, N | V | I):
                for word in EACH_KIND:
                    state = rich_state(mode, bits | 0x100)
                    pokes = rich_pokes() + word_pokes(PC, word)
                    stepped = arm_step(state, pokes, LOOKS)
                    answered = arm_run(1, state, pokes, LOOKS)
                    if stepped == [-1]:
                        self.assertEqual(answered[:40], [0] + cleaned(state), hex(word))
                    else:
                        done += 1
                        self.assertEqual(answered, [1] + stepped[1:], hex(word))
        # In user's and system's mode the saved status, returns and the user's registers are left unsaid.
        self.assertEqual(done, 3 * (len(EACH_KIND) * 7 - 2 * 6))

    def test_each_kind_is_done_out_of_svc(self):
        for word in EACH_KIND:
            self.assertEqual(arm_run(1, rich_state(), rich_pokes() + word_pokes(PC, word), [])[0], 1, hex(word))

    def test_no_more_than_one(self):
        state = make_state(regs=[(0, 0)])
        answered = arm_run(1, state, program_pokes([sum_by_number(ADD, 0, 0, 0, 1)] * 5), [])
        self.assertEqual((answered[0], answered[1], answered[16]), (1, 1, PC + 4))


class SeveralSteps(RunCase):
    def test_as_many_as_are_asked_for(self):
        pokes = program_pokes([sum_by_number(ADD, 0, 0, 0, 1)] * 20)
        for steps in range(20):
            answered = arm_run(steps, make_state(regs=[(0, 0)]), pokes, [])
            self.assertEqual((answered[0], answered[1], answered[16]), (steps, steps, PC + 4 * steps))

    def test_each_kind_behind_each_other(self):
        for first in EACH_KIND:
            for second in EACH_KIND:
                self.assert_like_steps([first, second], 2, rich_state(), rich_pokes())

    def test_a_loop_of_sums(self):
        # R0 counts down from 10, R1 gets the sum of 10 to 1.
        words = [sum_of(ADD, 0, 1, 1, 0), sum_by_number(SUB, 1, 0, 0, 1), jump(0xFFFFFC, cond=1), UNSAID]
        state = make_state(regs=[(0, 10), (1, 0)])
        self.assert_ends(words, 30, {0: 0, 1: 55, 15: PC + 12, STATUS: SVC | Z | C}, state=state)
        self.assert_like_steps(words, 33, state)

    def test_a_sum_of_two_words_each(self):
        # The carry of the first step is the second's.
        words = [sum_of(ADD, 1, 0, 0, 2), sum_of(ADC, 1, 1, 1, 3), UNSAID]
        state = make_state(regs=[(0, WORD), (1, 1), (2, 1), (3, 2)])
        self.assert_ends(words, 2, {0: 0, 1: 4, STATUS: SVC}, state=state)

    def test_a_product_of_numbers_up_to_ten(self):
        words = [mul(2, 1, 0), sum_of(MOV, 0, 0, 1, 2), sum_by_number(SUB, 1, 0, 0, 1), jump(0xFFFFFB, cond=1), UNSAID]
        state = make_state(regs=[(0, 10), (1, 1)])
        changes = {0: 0, 1: 3628800, 2: 3628800, 15: PC + 16, STATUS: SVC | Z | C}
        self.assert_ends(words, 40, changes, state=state)

    def test_words_copied(self):
        words = [
            single(1, 2, 0, 4, pre=0), single(0, 2, 1, 4, pre=0), sum_by_number(SUB, 1, 3, 3, 1), jump(0xFFFFFB, cond=1),
            UNSAID]
        state = make_state(regs=[(0, PC), (1, DATA), (3, 4)])
        changes = {0: PC + 16, 1: DATA + 16, 2: words[3], 3: 0, 15: PC + 16, STATUS: SVC | Z | C}
        after = {DATA + 4 * k: words[k] for k in range(4)}
        self.assert_ends(words, 16, changes, state=state, words_after=after)
        self.assert_like_steps(words, 17, state)

    def test_what_a_step_stores_a_later_one_loads(self):
        words = [single(0, 0, 1), single(1, 2, 1, 1, byte=1), half(LDRSH, 3, 1, 2), many(1, 1, [4]), UNSAID]
        state = make_state(regs=[(0, 0x8765C321), (1, DATA)])
        changes = {2: 0xC3, 3: 0xFFFF8765, 4: 0x8765C321}
        self.assert_ends(words, 4, changes, state=state, words_after={DATA: 0x8765C321})

    def test_called_and_back(self):
        words = [jump(1, link=1), UNSAID, UNSAID, sum_by_number(MVN, 0, 0, 0, 0), sum_of(MOV, 0, 0, 15, 14)]
        self.assert_ends(words, 3, {0: WORD, 14: PC + 4, 15: PC + 4})

    def test_put_on_a_stack_and_taken_off(self):
        words = [
            many(0, 13, [0, 1, 14], pre=1, up=0, back=1), sum_by_number(MOV, 0, 0, 0, 0),
            many(1, 13, [2, 3, 15], back=1), UNSAID]
        state = make_state(regs=[(0, 111), (1, 222), (13, DATA + 12), (14, PC + 12)])
        after = {DATA: 111, DATA + 4: 222, DATA + 8: PC + 12}
        self.assert_ends(words, 3, {0: 0, 2: 111, 3: 222, 15: PC + 12}, state=state, words_after=after)

    def test_swi_and_its_return(self):
        handler = program_pokes([sum_by_number(ADD, 0, 0, 0, 1), RETURN], 8)
        for mode in MODES:
            state = make_state(mode, C, regs=[(0, 0)])
            pokes = program_pokes([SWI, SWI, UNSAID]) + handler
            answered = arm_run(100, state, pokes, [])
            self.assertEqual((answered[0], answered[1], answered[16]), (6, 2, PC + 8))
            self.assertEqual(answered[1 + STATUS], mode | C)
            self.assertEqual(answered, step_by_step(100, state, pokes, []))

    def test_undefined_and_its_return(self):
        state = make_state(FIQ, V, regs=[(8, 8), (13, 13), (14, 14)])
        pokes = program_pokes([COPROCESSOR, UNSAID]) + word_pokes(4, RETURN)
        answered = arm_run(9, state, pokes, [])
        expected = list(state)
        expected[15] = PC + 4
        expected[SAVED[UND]] = V | FIQ
        expected[BANK[UND]:BANK[UND] + 2] = [state[BANK[UND]], PC + 4]
        # What is put away for others than FIQ, behind R8 to R12, is left as it falls out.
        expected[21:23] = [state[BANK[UND]], PC + 4]
        self.assertEqual(answered, [2] + expected)

    def test_through_all_modes(self):
        modes = (FIQ, IRQ, SVC, ABT, FIQ, UND, SYSTEM, FIQ, FIQ, SYSTEM, IRQ, USER, SVC)
        words = []
        for k, mode in enumerate(modes):
            words += [msr_number(mode), sum_by_number(ADD, 1, 13, 13, k), sum_by_number(ORR, 1, 8, 8, k), mrs(k % 8)]
        self.assert_like_steps(words + [SWI], 4 * len(modes) + 3, make_state(SYSTEM))

    def test_r15_goes_on_modulo_a_word(self):
        state = make_state(pc=0xFFFFFFF8)
        answered = arm_run(4, state, [], [])
        self.assertEqual((answered[0], answered[16]), (4, 8))

    def test_places_are_modulo_the_memory(self):
        # R15 goes on above the memory, where its first words stand again.
        state = make_state(pc=0xFFFFC, regs=[(0, 0), (1, 0)])
        pokes = word_pokes(0xFFFFC, sum_by_number(ADD, 0, 0, 0, 1)) + program_pokes(
            [sum_by_number(ADD, 0, 1, 1, 2), UNSAID], 0)
        answered = arm_run(4, state, pokes, [])
        self.assertEqual((answered[0], answered[1], answered[2], answered[16]), (2, 1, 2, 0x100004))

    def test_zeros_are_instructions(self):
        for bits in (0, Z):
            state = make_state(bits=bits)
            answered = arm_run(1000, state, [], [])
            self.assertEqual((answered[0], answered[16]), (1000, PC + 4000))


class LeftUnsaid(RunCase):
    def test_the_very_first(self):
        for word in EACH_UNSAID:
            for steps in (0, 1, 2, 1000000):
                state = rich_state(SVC, 0x0F000020)
                pokes = rich_pokes() + word_pokes(PC, word)
                self.assertEqual(arm_step(state, pokes, LOOKS), [-1])
                held = dict(zip(pokes[0::2], pokes[1::2]))
                expected = [0] + cleaned(state) + [held.get(place, 0) for place in LOOKS]
                self.assertEqual(arm_run(steps, state, pokes, LOOKS), expected, hex(word))

    def test_behind_others(self):
        ahead = [
            sum_by_number(ADD, 0, 0, 0, 1), single(0, 0, 1), sum_by_number(CMP, 1, 0, 0, 0), jump(0), UNSAID,
            single(0, 0, 1, 4)]
        state = make_state(regs=[(0, 4), (1, DATA)])
        for word in EACH_UNSAID:
            changes = {0: 5, 15: PC + 24, STATUS: SVC | C}
            self.assert_ends(ahead + [word], 5, changes, state=state, words_after={DATA: 5, DATA + 4: 5})

    def test_at_the_last_step_and_ahead_of_it(self):
        words = [PASS] * 3 + [UNSAID]
        for steps in range(8):
            self.assert_ends(words, min(steps, 3), {}, steps=steps)
        self.assert_ends(words, 3, {}, steps=1000000)

    def test_what_is_passed_over_does_not_end_it(self):
        # The first's condition doesn't hold; that of the last does.
        words = [mul(1, 1, 2) & 0x0FFFFFFF, PASS, mul(1, 1, 2) & 0x0FFFFFFF | 1 << 28]
        self.assert_ends(words, 2, {})

    def test_the_condition_15_ends_it_whatever_there_is(self):
        for low in (0x01A00000, 0x0A000000, 0x0F000000, 0):
            self.assert_ends([PASS, 0xF0000000 | low], 1, {})

    def test_left_unsaid_by_what_a_step_did(self):
        # In user's mode the saved status is none.
        words = [mrs(0, saved=1), msr_number(USER), mrs(0, saved=1)]
        state = make_state(SVC)
        changes = {0: state[SAVED[SVC]], 13: state[23], 14: state[24], 27: state[13], 28: state[14], STATUS: USER}
        self.assert_ends(words, 2, changes, state=state)

    def test_a_return_to_a_mode_that_is_none(self):
        for mode in range(32):
            words = [msr_number(mode, fields=1, saved=1), RETURN]
            state = make_state(ABT, regs=[(14, 0x100)])
            answered = arm_run(2, state, program_pokes(words), [])
            if mode in MODES:
                self.assertEqual((answered[0], answered[16], answered[1 + STATUS] & 31), (2, 0x100, mode))
            else:
                self.assertEqual((answered[0], answered[16], answered[1 + STATUS] & 31), (1, PC + 4, ABT))
                self.assertEqual(answered[1 + SAVED[ABT]] & 31, mode)

    def test_a_status_with_a_mode_that_is_none(self):
        for mode in range(32):
            answered = arm_run(2, make_state(SVC), program_pokes([PASS, msr_number(mode)]), [])
            self.assertEqual(answered[0], 2 if mode in MODES else 1)

    def test_nothing_of_it_is_done(self):
        # Parts of these would be: a word stored, a base moved, N and Z told.
        words = (many(0, 1, [0, 1, 2], back=1), many(1, 1, [0, 1], back=1), single(0, 1, 1, 4, back=1), mul(3, 3, 2, s=1))
        for word in words:
            self.assert_ends([PASS, word], 1, {}, state=make_state(regs=[(1, DATA)]))


class StoredInstructions(RunCase):
    def stored(self, store, regs, old, new, changes):
        """A store lays the new instruction over the old one, which stands next."""
        state = make_state(regs=list(regs.items()))
        self.assert_ends([store, old, UNSAID], 2, changes, state=state, words_after={PC + 4: new})

    def test_a_word_over_the_next(self):
        new = sum_by_number(MOV, 0, 0, 2, 99)
        self.stored(single(0, 0, 1), {0: new, 1: PC + 4}, PASS, new, {2: 99})

    def test_one_that_was_left_unsaid(self):
        new = sum_by_number(MOV, 0, 0, 2, 98)
        self.stored(single(0, 0, 1), {0: new, 1: PC + 7}, UNSAID, new, {2: 98})

    def test_a_byte(self):
        old, new = sum_by_number(MOV, 0, 0, 2, 99), sum_by_number(MOV, 0, 0, 2, 44)
        self.stored(single(0, 0, 1, byte=1), {0: 44, 1: PC + 4}, old, new, {2: 44})

    def test_its_top_byte(self):
        self.stored(single(0, 0, 1, byte=1), {0: 0xE3, 1: PC + 7}, 0xFFA02007, 0xE3A02007, {2: 7})

    def test_each_half(self):
        self.stored(half(STRH, 0, 1), {0: 0x3007, 1: PC + 4}, 0xE3A02008, 0xE3A03007, {3: 7})
        self.stored(half(STRH, 0, 1), {0: 0xE3E0, 1: PC + 6}, 0xE3A02008, 0xE3E02008, {2: WORD - 8})

    def test_an_exchange(self):
        old, new = UNSAID, sum_by_number(MOV, 0, 0, 3, 5)
        self.stored(swp(2, 0, 1), {0: new, 1: PC + 4}, old, new, {2: old, 3: 5})
        self.stored(swp(2, 0, 1, byte=1), {0: 5, 1: PC + 4}, 0xE3A03000, new, {2: 0, 3: 5})

    def test_many(self):
        words = [many(0, 7, [0, 1, 2]), UNSAID, UNSAID, PASS, PASS]
        new = {0: sum_by_number(MOV, 0, 0, 8, 1), 1: sum_by_number(MOV, 0, 0, 9, 2), 2: UNSAID, 7: PC + 4}
        after = {PC + 4: new[0], PC + 8: new[1], PC + 12: UNSAID}
        self.assert_ends(words, 3, {8: 1, 9: 2}, state=make_state(regs=list(new.items())), words_after=after)

    def test_what_is_left_unsaid_is_stored(self):
        words = [single(0, 0, 1), PASS, PASS, PASS]
        state = make_state(regs=[(0, UNSAID), (1, PC + 8)])
        self.assert_ends(words, 2, {}, state=state, words_after={PC + 8: UNSAID})

    def test_its_own_place(self):
        # It is done as it stood there, and the next time as it stands then.
        words = [single(0, 0, 1), jump(0xFFFFFD), PASS]
        state = make_state(regs=[(0, UNSAID), (1, PC)])
        self.assert_ends(words, 2, {15: PC}, state=state, words_after={PC: UNSAID})

    def test_a_place_above_the_memory(self):
        new = sum_by_number(MOV, 0, 0, 2, 97)
        self.stored(single(0, 0, 1), {0: new, 1: 0xABC00000 + PC + 4}, UNSAID, new, {2: 97})

    def test_again_and_again(self):
        # Each time round, the number that is added to R2 is one more: 0 + 1 + .. + 9.
        words = [
            sum_by_number(ADD, 0, 2, 2, 0), sum_by_number(ADD, 0, 0, 0, 1), single(0, 0, 1, byte=1),
            sum_by_number(CMP, 1, 0, 0, 10), jump(0xFFFFFA, cond=1), UNSAID]
        state = make_state(regs=[(0, 0), (1, PC), (2, 0)])
        changes = {0: 10, 2: 45, 15: PC + 20, STATUS: SVC | Z | C}
        self.assert_ends(words, 50, changes, state=state, words_after={PC: words[0] + 10})
        self.assert_like_steps(words, 52, state)


class HowMany(unittest.TestCase):
    LOOP = program_pokes([sum_by_number(ADD, 0, 0, 0, 1), jump(0xFFFFFD)])

    def test_the_most(self):
        answered = arm_run(1000000, make_state(regs=[(0, 0)]), self.LOOP, [PC])
        self.assertEqual((answered[0], answered[1], answered[16]), (1000000, 500000, PC))
        self.assertEqual(answered[40:], [1])

    def test_too_many(self):
        for steps in (1000001, 1000002, 2000000, 1 << 31, 4294967295):
            for word in (PASS, UNSAID):
                self.assertEqual(arm_run(steps, make_state(), word_pokes(PC, word), [PC, 0]), [-3])

    def test_as_many_as_may_be_are_not_too_many(self):
        for steps in (65536, 999999, 1000000):
            self.assertEqual(arm_run(steps, make_state(), word_pokes(PC, UNSAID), [])[0], 0)

    def test_the_state_is_asked_first(self):
        for steps in (0, 1, 1000000, 1000001, 4294967295):
            for mode in range(32):
                for pc in (PC, PC + 1, PC + 2, PC + 3, 0xFFFFFFFF):
                    if mode not in MODES or pc != PC:
                        self.assertEqual(arm_run(steps, make_state(mode, pc=pc), word_pokes(PC, UNSAID), [1, 2]), [-2])

    def test_the_other_bits_do_not_make_a_mode_none(self):
        self.assertEqual(arm_run(1, make_state(SVC, 0x20), [], [])[0], 1)


class Answers(unittest.TestCase):
    STORE_TWICE = program_pokes([single(0, 0, 1), single(0, 2, 1, 4), PASS, UNSAID])

    def test_length_and_order(self):
        state = make_state(USER, N, regs=[(0, 0x04030201), (1, DATA), (2, 0x08070605)])
        looks = [DATA + 3, DATA + 7, DATA + 4, DATA + 8, DATA, DATA, PC + 15]
        answered = arm_run(9, state, self.STORE_TWICE, looks)
        expected = list(state)
        expected[15] = PC + 12
        self.assertEqual(answered, [3] + expected + [4, 8, 5, 0, 1, 1, 255])
        self.assertEqual(len(answered), 47)

    def test_whole_numbers_alone(self):
        for steps in (0, 1, 2, 50):
            answered = arm_run(steps, make_state(regs=[(1, DATA)]), self.STORE_TWICE, [DATA, 5])
            self.assertIs(type(answered), list)
            self.assertEqual([number for number in answered if type(number) is not int], [])
            self.assertEqual([number for number in answered if not 0 <= number <= WORD], [])
        for refused in (arm_run(1000001, make_state(), [], []), arm_run(1, make_state(0), [], [])):
            self.assertIs(type(refused), list)
            self.assertEqual([type(number) for number in refused], [int])

    def test_empty_lists(self):
        state = make_state()
        expected = list(state)
        expected[15] = PC + 12
        self.assertEqual(arm_run(3, state, [], []), [3] + expected)
        self.assertEqual(arm_run(0, state, [], []), [0] + state)

    def test_the_longest_lists(self):
        # 6125 words of instructions, each of which adds one to R0.
        state = make_state(pc=0, regs=[(0, 0)])
        pokes = program_pokes([sum_by_number(ADD, 0, 0, 0, 1)] * 6125, 0)
        looks = list(range(1048576 - 24500, 1048576)) + list(range(24500))
        self.assertEqual((len(pokes), len(looks)), (49000, 49000))
        answered = arm_run(6125, state, pokes, looks)
        self.assertEqual(len(answered), 49040)
        self.assertEqual((answered[0], answered[1], answered[16]), (6125, 6125, 24500))
        self.assertEqual(answered[40:40 + 24500], [0] * 24500)
        self.assertEqual(answered[40 + 24500:], pokes[1::2])

    def test_the_later_poke_counts(self):
        pokes = word_pokes(PC, UNSAID) + word_pokes(PC, sum_by_number(MOV, 0, 0, 0, 1)) + word_pokes(PC + 4, UNSAID)
        answered = arm_run(5, make_state(), [7, 1, 7, 2] + pokes + [7, 3], [7])
        self.assertEqual((answered[0], answered[1], answered[40]), (1, 1, 3))

    def test_the_largest_numbers(self):
        state = [WORD] * 39
        state[15] = WORD - 3
        self.assertEqual(arm_run(1, state, [], []), [1] + [WORD] * 15 + [0] + [WORD] * 17 + [0xF00000DF] * 6)
        self.assertEqual(arm_run(0, state, [], []), [0] + [WORD] * 15 + [WORD - 3] + [WORD] * 17 + [0xF00000DF] * 6)

    def test_what_was_handed_in_stays(self):
        for steps in (0, 1, 3, 100, 1000001):
            for mode in (0, USER, FIQ, SVC):
                state = make_state(mode, 0x0FFFFF20, regs=[(1, PC + 8)])
                pokes = list(self.STORE_TWICE)
                looks = [DATA, PC]
                kept = (list(state), list(pokes), list(looks))
                arm_run(steps, state, pokes, looks)
                self.assertEqual((state, pokes, looks), kept)

    def test_nothing_is_kept(self):
        state = make_state(regs=[(0, 0x04030201), (1, DATA)])
        first = arm_run(5, state, self.STORE_TWICE, [DATA])
        self.assertEqual(first[40:], [1])
        self.assertEqual(arm_run(5, state, [], [DATA])[40:], [0])
        self.assertEqual(arm_step(state, [], [DATA])[40:], [0])
        self.assertEqual(arm_run(5, state, self.STORE_TWICE, [DATA]), first)

    def test_what_is_answered_is_new(self):
        state = make_state()
        answered = arm_run(0, state, [], [])
        answered[1] = 5
        self.assertNotEqual(state[0], 5)
        self.assertIsNot(arm_run(0, state, [], []), arm_run(0, state, [], []))
