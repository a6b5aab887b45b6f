"""What the tests share: states, words of instructions, and the ways to ask for an answer."""

import unittest

from condwords.machine import arm_step

USER, FIQ, IRQ, SVC, ABT, UND, SYSTEM = 0x10, 0x11, 0x12, 0x13, 0x17, 0x1B, 0x1F
MODES = (USER, FIQ, IRQ, SVC, ABT, UND, SYSTEM)
MODES_WITH_SAVED = (FIQ, IRQ, SVC, ABT, UND)

N, Z, C, V = 1 << 31, 1 << 30, 1 << 29, 1 << 28
I, F = 0x80, 0x40
STATUS_BITS = 0xF00000DF
WORD = 0xFFFFFFFF

# Where things stand in the 39 numbers.
STATUS = 33
HIGH = 16
BANKS = 23
BANK = {USER: 23, SYSTEM: 23, IRQ: 25, SVC: 27, ABT: 29, UND: 31}
SAVED = {FIQ: 34, IRQ: 35, SVC: 36, ABT: 37, UND: 38}

AND, EOR, SUB, RSB, ADD, ADC, SBC, RSC, TST, TEQ, CMP, CMN, ORR, MOV, BIC, MVN = range(16)
COMPARISONS = (TST, TEQ, CMP, CMN)
LSL, LSR, ASR, ROR = range(4)

PC = 0x8000


def make_state(mode=SVC, bits=0, pc=PC, regs=(), saved=None):
    """A state in which each number is another one, with some of r given as pairs (number, value)."""
    state = [0xA0000000 + 0x01010101 * k for k in range(39)]
    state[15] = pc
    state[STATUS] = mode | bits
    for k, status in enumerate((N | SVC, Z | USER, C | SYSTEM | I, V | IRQ | F, N | C | FIQ)):
        state[34 + k] = status
    for number, value in dict(regs).items():
        state[number] = value
    for kept_by, status in (saved or {}).items():
        state[SAVED[kept_by]] = status
    return state


def word_pokes(place, word):
    """The pokes that lay a word at a place."""
    pokes = []
    for k in range(4):
        pokes += [(place + k) & 0xFFFFF, (word >> (8 * k)) & 255]
    return pokes


def program_pokes(words, place=PC):
    """The pokes that lay words at a place, one behind another."""
    pokes = []
    for k, word in enumerate(words):
        pokes += word_pokes(place + 4 * k, word)
    return pokes


def cleaned(state):
    """The state with the statuses' other bits 0."""
    return state[:STATUS] + [status & STATUS_BITS for status in state[STATUS:]]


def moves(state, old, new):
    """All that moves when a mode is taken up."""
    changes = {}
    if old != FIQ:
        changes.update({BANK[old]: state[13], BANK[old] + 1: state[14]})
    if (old == FIQ) != (new == FIQ):
        for k in range(7):
            changes[8 + k] = state[HIGH + k]
            changes[HIGH + k] = state[8 + k]
    if new != FIQ:
        changes[13] = changes.get(BANK[new], state[BANK[new]])
        changes[14] = changes.get(BANK[new] + 1, state[BANK[new] + 1])
    return changes


def sum_by_number(op, s, rn, rd, byte, turn=0, cond=14):
    return cond << 28 | 1 << 25 | op << 21 | s << 20 | rn << 16 | rd << 12 | turn << 8 | byte


def sum_of(op, s, rn, rd, rm, shift=LSL, amount=0, cond=14):
    return cond << 28 | op << 21 | s << 20 | rn << 16 | rd << 12 | amount << 7 | shift << 5 | rm


def sum_shifted_by(op, s, rn, rd, rm, shift, rs, cond=14):
    return cond << 28 | op << 21 | s << 20 | rn << 16 | rd << 12 | rs << 8 | shift << 5 | 1 << 4 | rm


def mul(rd, rm, rs, s=0, unused=0):
    return 0xE0000090 | s << 20 | rd << 16 | unused << 12 | rs << 8 | rm


def mla(rd, rm, rs, rn, s=0):
    return 0xE0200090 | s << 20 | rd << 16 | rn << 12 | rs << 8 | rm


def long_product(with_sign, adds, low, high, rm, rs, s=0):
    return 0xE0800090 | with_sign << 22 | adds << 21 | s << 20 | high << 16 | low << 12 | rs << 8 | rm


def swp(rd, rm, rn, byte=0):
    return 0xE1000090 | byte << 22 | rn << 16 | rd << 12 | rm


def mrs(rd, saved=0):
    return 0xE10F0000 | saved << 22 | rd << 12


def msr(rm, fields=9, saved=0):
    return 0xE120F000 | saved << 22 | fields << 16 | rm


def msr_number(byte, turn=0, fields=9, saved=0):
    return 0xE320F000 | saved << 22 | fields << 16 | turn << 8 | byte


def single(load, rd, rn, offset=0, byte=0, pre=1, up=1, back=0):
    return 0xE4000000 | pre << 24 | up << 23 | byte << 22 | back << 21 | load << 20 | rn << 16 | rd << 12 | offset


def single_by(load, rd, rn, rm, shift=LSL, amount=0, byte=0, pre=1, up=1, back=0):
    return single(load, rd, rn, amount << 7 | shift << 5 | rm, byte, pre, up, back) | 1 << 25


STRH, LDRH, LDRSB, LDRSH = (0, 1), (1, 1), (1, 2), (1, 3)


def half(what, rd, rn, offset=0, pre=1, up=1, back=0):
    load, kind = what
    upper, lower = offset >> 4, offset & 15
    return (0xE0400090 | pre << 24 | up << 23 | back << 21 | load << 20 | rn << 16 | rd << 12
            | upper << 8 | kind << 5 | lower)


def half_by(what, rd, rn, rm, pre=1, up=1, back=0, unused=0):
    load, kind = what
    return (0xE0000090 | pre << 24 | up << 23 | back << 21 | load << 20 | rn << 16 | rd << 12
            | unused << 8 | kind << 5 | rm)


def many(load, rn, numbers, pre=0, up=1, s=0, back=0):
    listed = sum(1 << number for number in numbers)
    return 0xE8000000 | pre << 24 | up << 23 | s << 22 | back << 21 | load << 20 | rn << 16 | listed


def jump(offset, link=0, cond=14):
    return cond << 28 | 5 << 25 | link << 24 | offset


class StepCase(unittest.TestCase):
    """Asks arm_step for one instruction, and compares all that is answered."""

    def answer(self, word, state, words=None, looks=()):
        """What is answered with the instruction at R15 and these words in memory."""
        pokes = []
        for place, value in (words or {}).items():
            pokes += word_pokes(place, value)
        return arm_step(state, pokes + word_pokes(state[15], word), list(looks))

    def assert_step(self, word, state, changes, words=None, words_after=None):
        """The instruction is done and changes just this; R15 goes on by four if no change tells it."""
        expected = cleaned(state)
        expected[15] = (expected[15] + 4) & WORD
        for k, value in changes.items():
            expected[k] = value
        words = words or {}
        after = dict(words)
        after.update(words_after or {})
        looks = self.looks_around(after, state[15])
        memory = self.bytes_of(after, state[15], word)
        answered = self.answer(word, state, words, looks)
        shown = [hex(number) for number in answered[:40]]
        self.assertEqual(shown, [hex(number) for number in [0] + expected], hex(word))
        self.assertEqual(answered[40:], [memory.get(place, 0) for place in looks], hex(word))

    def looks_around(self, words, pc):
        """The places of these words and of the instruction, with eight bytes on either side."""
        looks = []
        for place in list(words) + [pc]:
            looks += [(place + k) & 0xFFFFF for k in range(-8, 12)]
        return looks

    def bytes_of(self, words, pc, word):
        memory = {}
        for place, value in [(pc, word)] + list(words.items()):
            for k in range(4):
                memory[(place + k) & 0xFFFFF] = (value >> (8 * k)) & 255
        return memory

    def assert_unsaid(self, word, state, words=None):
        self.assertEqual(self.answer(word, state, words, [0, 1]), [-1], hex(word))

    def assert_said(self, word, state, words=None):
        """The neighbour of what is left unsaid: it is done, and it is no undefined exception."""
        answered = self.answer(word, state, words)
        self.assertEqual(answered[0], 0, hex(word))
        self.assertNotEqual(answered[16], 4, hex(word))

    def assert_undefined(self, word, state):
        """The undefined exception, out of another mode than FIQ's."""
        old = state[STATUS] & STATUS_BITS
        mode = old & 31
        changes = {15: 4, STATUS: (old & ~31) | UND | I, SAVED[UND]: old}
        changes[BANK[mode]] = state[13]
        changes[BANK[mode] + 1] = state[14]
        changes[13] = state[13] if mode == UND else state[BANK[UND]]
        changes[14] = (state[15] + 4) & WORD
        self.assert_step(word, state, changes)
