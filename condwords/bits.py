"""Words of 32 bits and the parts of one."""

WORD = 0xFFFFFFFF


def bit(word, number):
    """The one bit of that number, 0 or 1."""
    return (word >> number) & 1


def field(word, low, width):
    """The bits from low upwards, as a number."""
    return (word >> low) & ((1 << width) - 1)


def has_r15(word):
    """Whether R15 is told in one of the four fields of an instruction that tell a number of R0 to R15."""
    return 15 in [field(word, low, 4) for low in (0, 8, 12, 16)]


def signed(value, width):
    """The value of so many bits, its top bit taken as a sign."""
    return value - (bit(value, width - 1) << width)


def turn_right(word, amount):
    """The word turned right by 0 to 31."""
    return ((word >> amount) | (word << (32 - amount))) & WORD
