"""The shifts of a second operand; each answers the shifted word and the carry out of it."""

from condwords.bits import WORD, signed, turn_right

LSL = 0
LSR = 1
ASR = 2
ROR = 3


def shift_by_number(kind, value, amount, carry):
    """Shift by the 0 to 31 of the instruction, where 0 has a meaning of its own but in LSL."""
    if amount > 0:
        return shift(kind, value, amount)
    if kind == LSL:
        return (value, carry)
    if kind == ROR:
        return ((value >> 1) | (carry << 31), value & 1)
    return shift(kind, value, 32)


def shift_by_byte(kind, value, amount, carry):
    """Shift by the low byte of one of the registers; 0 leaves all as it is."""
    if amount == 0:
        return (value, carry)
    return shift(kind, value, amount)


def shift(kind, value, amount):
    """Shift by 1 to 255."""
    if kind == LSL:
        return ((value << amount) & WORD, ((value << amount) >> 32) & 1)
    if kind == LSR:
        return (value >> amount, (value >> (amount - 1)) & 1)
    if kind == ASR:
        number = signed(value, 32)
        return ((number >> amount) & WORD, (number >> (amount - 1)) & 1)
    turned = turn_right(value, amount & 31)
    return (turned, turned >> 31)


def turned_number(word, carry):
    """The instruction's byte in its bits 0 to 7, turned right by twice its bits 8 to 11."""
    amount = 2 * ((word >> 8) & 15)
    turned = turn_right(word & 255, amount)
    return (turned, carry if amount == 0 else turned >> 31)
