"""What the processor holds while it works: its registers, its statuses and its memory."""

from condwords.bits import WORD, turn_right

STATUS_BITS = 0xF00000DF
WORD_PLACES = 0xFFFFC


class Core:
    """A copy of a state and its memory, which may be changed.

    While an instruction is done, the place in regs[15] is already the next one's,
    so that a jump is no more than a write there.
    """

    def __init__(self, state, pokes):
        self.regs = state[0:16]
        self.high = state[16:23]
        self.banks = state[23:33]
        self.status = state[33] & STATUS_BITS
        self.saved = [status & STATUS_BITS for status in state[34:39]]
        # Kept by the places of whole words, since what is asked most is the instruction at R15.
        self.words = {}
        for k in range(0, len(pokes), 2):
            store_byte(self, pokes[k], pokes[k + 1])

    def numbers(self):
        """The state's 39 numbers, in their order."""
        return self.regs + self.high + self.banks + [self.status] + self.saved


def operand(core, number):
    """The value that an instruction reads: of R15, eight beyond the instruction."""
    if number == 15:
        return (core.regs[15] + 4) & WORD
    return core.regs[number]


def stored_value(core, number):
    """The value that a store writes: of R15, twelve beyond the instruction."""
    if number == 15:
        return (core.regs[15] + 8) & WORD
    return core.regs[number]


def set_result(core, number, value):
    """Write a result; into R15 it is a jump, whose low two bits are dropped."""
    core.regs[number] = (value & -4) if number == 15 else value


def load_byte(core, place):
    """The byte at a place."""
    return (load_word(core, place) >> (8 * (place & 3))) & 0xFF


def load_half(core, place):
    """The halfword at a place, whose low bit is passed over."""
    return (load_word(core, place) >> (8 * (place & 2))) & 0xFFFF


def load_word(core, place):
    """The word at a place, whose low two bits are passed over."""
    return core.words.get(place & WORD_PLACES, 0)


def load_turned_word(core, place):
    """The word at a place, turned right by eight for each byte beyond a multiple of 4."""
    return turn_right(load_word(core, place), 8 * (place & 3))


def store_byte(core, place, value):
    """Write a value's lowest byte."""
    store_part(core, place, value, 0xFF, 8 * (place & 3))


def store_half(core, place, value):
    """Write a value's lower half at a place, whose low bit is passed over."""
    store_part(core, place, value, 0xFFFF, 8 * (place & 2))


def store_part(core, place, value, part, shift):
    """Write a part of a value into the word at a place, so far up in it."""
    store_word(core, place, (load_word(core, place) & ~(part << shift)) | ((value & part) << shift))


def store_word(core, place, value):
    """Write a word at a place, whose low two bits are passed over."""
    core.words[place & WORD_PLACES] = value
