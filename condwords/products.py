"""Products of one word (MUL, MLA) and of two (UMULL, UMLAL, SMULL, SMLAL)."""

from condwords.bits import WORD, bit, field, has_r15, signed
from condwords.conditions import tell_sign_and_zero, zero_bit


def short_unsaid(word):
    """Whether this MUL or MLA is left unsaid."""
    adds = bit(word, 21) == 1
    if has_r15(word) or field(word, 16, 4) == field(word, 0, 4):
        return True
    return not adds and field(word, 12, 4) != 0


def long_unsaid(word):
    """Whether this long product is left unsaid."""
    upper = field(word, 16, 4)
    lower = field(word, 12, 4)
    return has_r15(word) or upper == lower or field(word, 0, 4) in (upper, lower)


def do_short(core, word):
    """Do MUL or MLA."""
    total = core.regs[field(word, 0, 4)] * core.regs[field(word, 8, 4)]
    if bit(word, 21) == 1:
        total += core.regs[field(word, 12, 4)]
    result = total & WORD
    core.regs[field(word, 16, 4)] = result
    if bit(word, 20) == 1:
        tell_sign_and_zero(core, bit(result, 31), zero_bit(result))


def do_long(core, word):
    """Do UMULL, UMLAL, SMULL or SMLAL."""
    upper = field(word, 16, 4)
    lower = field(word, 12, 4)
    total = long_product(core, word)
    if bit(word, 21) == 1:
        total += (core.regs[upper] << 32) | core.regs[lower]
    result = field(total, 0, 64)
    core.regs[upper] = result >> 32
    core.regs[lower] = result & WORD
    if bit(word, 20) == 1:
        tell_sign_and_zero(core, bit(result, 63), zero_bit(result))


def long_product(core, word):
    """The product of the two factors, with or without their signs."""
    first = core.regs[field(word, 8, 4)]
    last = core.regs[field(word, 0, 4)]
    if bit(word, 22) == 1:
        return signed(first, 32) * signed(last, 32)
    return first * last
