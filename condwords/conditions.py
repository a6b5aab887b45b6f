"""The fifteen conditions, and the status's four upper bits that they ask."""

from condwords.bits import bit

CARRY = 29
OVERFLOW = 28


def carry_of(core):
    """C, as 0 or 1."""
    return bit(core.status, CARRY)


def holds(condition, status):
    """Whether a condition (0 to 14) holds: an odd one where the even one ahead of it doesn't."""
    if condition == 14:
        return True
    return even_holds(condition >> 1, status) != ((condition & 1) == 1)


def even_holds(pair, status):
    """Whether the first of a pair of conditions holds: EQ, CS, MI, VS, HI, GE, GT."""
    n = bit(status, 31) == 1
    z = bit(status, 30) == 1
    c = bit(status, CARRY) == 1
    v = bit(status, OVERFLOW) == 1
    if pair == 0:
        return z
    if pair == 1:
        return c
    if pair == 2:
        return n
    if pair == 3:
        return v
    if pair == 4:
        return c and not z
    if pair == 5:
        return n == v
    return n == v and not z


def zero_bit(value):
    """1 for 0, else 0."""
    return 1 if value == 0 else 0


def tell_sign_and_zero(core, negative, zero):
    """Write N and Z alone, each 0 or 1."""
    core.status = (core.status & 0x3FFFFFFF) | (negative << 31) | (zero << 30)


def tell_all(core, result, carry, overflow):
    """Write N and Z after a word, and C and V, each 0 or 1."""
    tell_sign_and_zero(core, bit(result, 31), zero_bit(result))
    core.status = (core.status & 0xCFFFFFFF) | (carry << CARRY) | (overflow << OVERFLOW)
