"""Statuses read (MRS) and written (MSR)."""

from condwords.bits import bit, field
from condwords.modes import USER, has_mode, has_saved, mode_of, saved_status, set_saved_status, take_up
from condwords.shifts import turned_number

UPPER_BITS = 0xF0000000
CONTROL_BITS = 0xDF


def is_of_saved(word):
    """Whether the saved status is meant."""
    return bit(word, 22) == 1


def read_unsaid(core, word):
    """Whether this MRS is left unsaid."""
    if field(word, 16, 4) != 15 or field(word, 0, 12) != 0:
        return True
    return field(word, 12, 4) == 15 or (is_of_saved(word) and not has_saved(core))


def do_read(core, word):
    """Do MRS."""
    core.regs[field(word, 12, 4)] = saved_status(core) if is_of_saved(word) else core.status


def write_unsaid(core, word):
    """Whether this MSR is left unsaid."""
    if field(word, 12, 4) != 15 or field(word, 17, 2) != 0:
        return True
    if bit(word, 25) == 0 and (field(word, 8, 4) != 0 or field(word, 0, 4) == 15):
        return True
    if bit(word, 16) == 0 and bit(word, 19) == 0:
        return True
    if is_of_saved(word):
        return not has_saved(core)
    return not has_mode(new_status(core, word))


def do_write(core, word):
    """Do MSR."""
    if is_of_saved(word):
        set_saved_status(core, merged(saved_status(core), word_given(core, word), written_bits(word)))
    else:
        take_up(core, new_status(core, word))


def new_status(core, word):
    """The status as an MSR makes it; the user's changes no control."""
    changed = written_bits(word)
    if mode_of(core.status) == USER:
        changed = changed & UPPER_BITS
    return merged(core.status, word_given(core, word), changed)


def merged(old, new, changed):
    """The old status with the changed bits out of the new."""
    return (old & ~changed) | (new & changed)


def word_given(core, word):
    """What an MSR writes: a turned byte or what one of the registers holds."""
    if bit(word, 25) == 1:
        return turned_number(word, 0)[0]
    return core.regs[field(word, 0, 4)]


def written_bits(word):
    """The bits of a status that an MSR names."""
    return (UPPER_BITS * bit(word, 19)) | (CONTROL_BITS * bit(word, 16))
