"""One value moved from or to memory: words, bytes, halfwords, and exchanges."""

from condwords.bits import WORD, bit, field, signed
from condwords.conditions import carry_of
from condwords.core import load_byte, load_half, load_turned_word, operand, set_result
from condwords.core import store_byte, store_half, store_word, stored_value
from condwords.shifts import shift_by_number


def exchange_unsaid(word):
    """Whether this SWP or SWPB is left unsaid."""
    base = field(word, 16, 4)
    others = (field(word, 0, 4), field(word, 12, 4))
    return base == 15 or 15 in others or base in others


def do_exchange(core, word):
    """Do SWP or SWPB."""
    place = core.regs[field(word, 16, 4)]
    value = core.regs[field(word, 0, 4)]
    if bit(word, 22) == 1:
        loaded = load_byte(core, place)
        store_byte(core, place, value)
    else:
        loaded = load_turned_word(core, place)
        store_word(core, place, value)
    core.regs[field(word, 12, 4)] = loaded


def writes_back(word):
    """Whether the base is moved: always where the offset counts behind the transfer."""
    return bit(word, 24) == 0 or bit(word, 21) == 1


def base_unsaid(word):
    """Whether the way the base is used is left unsaid."""
    base = field(word, 16, 4)
    if bit(word, 24) == 0 and bit(word, 21) == 1:
        return True
    return writes_back(word) and (base == 15 or base == field(word, 12, 4))


def moved_base(core, word, offset):
    """The base with the offset upon it or off it."""
    base = operand(core, field(word, 16, 4))
    return (base + offset if bit(word, 23) == 1 else base - offset) & WORD


def transfer_place(core, word, moved):
    """The place that a transfer uses: the base ahead of its move or behind it."""
    return moved if bit(word, 24) == 1 else operand(core, field(word, 16, 4))


def write_back(core, word, moved):
    """Move the base where the instruction asks for it."""
    if writes_back(word):
        core.regs[field(word, 16, 4)] = moved


def single_unsaid(word):
    """Whether this LDR, STR, LDRB or STRB is left unsaid."""
    if base_unsaid(word) or (bit(word, 25) == 1 and field(word, 0, 4) == 15):
        return True
    return bit(word, 22) == 1 and field(word, 12, 4) == 15


def single_offset(core, word):
    """The offset of a word's or byte's transfer: a number, or an index that may be shifted."""
    if bit(word, 25) == 0:
        return field(word, 0, 12)
    value = core.regs[field(word, 0, 4)]
    return shift_by_number(field(word, 5, 2), value, field(word, 7, 5), carry_of(core))[0]


def do_single(core, word):
    """Do LDR, STR, LDRB or STRB."""
    number = field(word, 12, 4)
    moved = moved_base(core, word, single_offset(core, word))
    place = transfer_place(core, word, moved)
    is_byte = bit(word, 22) == 1
    if bit(word, 20) == 1:
        set_result(core, number, load_byte(core, place) if is_byte else load_turned_word(core, place))
    elif is_byte:
        store_byte(core, place, core.regs[number])
    else:
        store_word(core, place, stored_value(core, number))
    write_back(core, word, moved)


def half_unsaid(word):
    """Whether this LDRH, STRH, LDRSB, LDRSH, or what would be their kin, is left unsaid."""
    if base_unsaid(word) or field(word, 12, 4) == 15:
        return True
    if bit(word, 20) == 0 and bit(word, 6) == 1:
        return True
    return bit(word, 22) == 0 and (field(word, 8, 4) != 0 or field(word, 0, 4) == 15)


def half_offset(core, word):
    """The offset of a halfword's transfer: a number in two parts, or an index."""
    if bit(word, 22) == 1:
        return (field(word, 8, 4) << 4) | field(word, 0, 4)
    return core.regs[field(word, 0, 4)]


def do_half(core, word):
    """Do LDRH, STRH, LDRSB or LDRSH."""
    number = field(word, 12, 4)
    moved = moved_base(core, word, half_offset(core, word))
    place = transfer_place(core, word, moved)
    if bit(word, 20) == 1:
        core.regs[number] = loaded_half(core, word, place)
    else:
        store_half(core, place, core.regs[number])
    write_back(core, word, moved)


def loaded_half(core, word, place):
    """What LDRH, LDRSB or LDRSH loads."""
    if bit(word, 6) == 0:
        return load_half(core, place)
    if bit(word, 5) == 0:
        return signed(load_byte(core, place), 8) & WORD
    return signed(load_half(core, place), 16) & WORD
