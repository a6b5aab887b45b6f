"""Many registers moved at once (LDM, STM)."""

from condwords.bits import WORD, bit, field
from condwords.core import load_word, set_result, store_word, stored_value
from condwords.modes import FIQ, can_return, has_saved, mode_of, saved_status, take_up


def is_return(word):
    """Whether the saved status is brought back: a load with S and R15."""
    return bit(word, 22) == 1 and bit(word, 20) == 1 and bit(word, 15) == 1


def is_of_user(word):
    """Whether the user's registers are meant."""
    return bit(word, 22) == 1 and not is_return(word)


def base_unsaid(word):
    """Whether the base is written back although it is loaded, or stored and not first."""
    base = field(word, 16, 4)
    if bit(word, 21) == 0 or bit(word, base) == 0:
        return False
    return bit(word, 20) == 1 or field(word, 0, base) != 0


def many_unsaid(core, word):
    """Whether this LDM or STM is left unsaid."""
    if field(word, 0, 16) == 0 or field(word, 16, 4) == 15 or base_unsaid(word):
        return True
    if is_return(word):
        return not can_return(core)
    # The modes without a saved status are the user's and the system's.
    return is_of_user(word) and (bit(word, 21) == 1 or not has_saved(core))


def do_many(core, word):
    """Do LDM or STM."""
    base = field(word, 16, 4)
    start = core.regs[base]
    numbers = [number for number in range(16) if bit(word, number) == 1]
    length = 4 * len(numbers)
    place = lowest_place(word, start, length)
    if bit(word, 20) == 1:
        load_many(core, word, numbers, place)
    else:
        store_many(core, word, numbers, place)
    # Behind the stores, so that a base among them is stored as it was.
    if bit(word, 21) == 1:
        core.regs[base] = (start + length if bit(word, 23) == 1 else start - length) & WORD
    if is_return(word):
        take_up(core, saved_status(core))


def lowest_place(word, start, length):
    """Where the first of the values lies, whichever way the base goes."""
    upwards = bit(word, 23)
    lowest = start if upwards == 1 else start - length
    return lowest + 4 if bit(word, 24) == upwards else lowest


def load_many(core, word, numbers, place):
    """Load the registers of these numbers, one word after another."""
    of_user = is_of_user(word)
    for k, number in enumerate(numbers):
        value = load_word(core, place + 4 * k)
        if of_user:
            set_user_value(core, number, value)
        else:
            set_result(core, number, value)


def store_many(core, word, numbers, place):
    """Store the registers of these numbers, one word after another."""
    of_user = is_of_user(word)
    for k, number in enumerate(numbers):
        value = user_value(core, number) if of_user else stored_value(core, number)
        store_word(core, place + 4 * k, value)


def lies_in_high(core, number):
    """Whether the user's one of this number is put away in high: R8 to R12 in FIQ's mode."""
    return 8 <= number <= 12 and mode_of(core.status) == FIQ


def user_value(core, number):
    """What the user's one of this number holds, where neither user nor system is the mode in use."""
    if number in (13, 14):
        return core.banks[number - 13]
    if lies_in_high(core, number):
        return core.high[number - 8]
    return stored_value(core, number)


def set_user_value(core, number, value):
    """Write the user's one of this number, where neither user nor system is the mode in use."""
    if number in (13, 14):
        core.banks[number - 13] = value
    elif lies_in_high(core, number):
        core.high[number - 8] = value
    else:
        core.regs[number] = value
