"""Which kind of instruction a word is, by its bits below the condition."""

from condwords.bits import bit, field

SUM = 0
SHORT_PRODUCT = 1
LONG_PRODUCT = 2
EXCHANGE = 3
STATUS_READ = 4
STATUS_WRITE = 5
SINGLE = 6
HALF = 7
MANY = 8
JUMP = 9
SOFTWARE_CALL = 10
UNDEFINED = 11
UNSAID = 12


def kind_of(word):
    """The kind of an instruction."""
    group = field(word, 25, 3)
    if group == 0:
        return kind_with_registers(word)
    if group == 1:
        return kind_with_number(word)
    if group == 2:
        return SINGLE
    if group == 3:
        return SINGLE if bit(word, 4) == 0 else UNDEFINED
    if group == 4:
        return MANY
    if group == 5:
        return JUMP
    return SOFTWARE_CALL if field(word, 24, 4) == 15 else UNDEFINED


def is_silent_comparison(word):
    """Whether it would be a comparison without S: the room of the statuses' instructions."""
    return field(word, 23, 2) == 2 and bit(word, 20) == 0


def kind_with_registers(word):
    """The kind where bits 27 to 25 are 000."""
    if bit(word, 7) == 1 and bit(word, 4) == 1:
        return kind_beside_sums(word)
    if not is_silent_comparison(word):
        return SUM
    if field(word, 4, 4) != 0:
        return UNDEFINED
    return STATUS_WRITE if bit(word, 21) == 1 else STATUS_READ


def kind_with_number(word):
    """The kind where bits 27 to 25 are 001."""
    if not is_silent_comparison(word):
        return SUM
    return STATUS_WRITE if bit(word, 21) == 1 else UNDEFINED


def kind_beside_sums(word):
    """The kind where bits 27 to 25 are 000 and both bit 7 and bit 4 are 1."""
    if field(word, 5, 2) != 0:
        return HALF
    upper = field(word, 22, 3)
    if upper == 0:
        return SHORT_PRODUCT
    if upper == 1:
        return UNSAID
    if upper in (2, 3):
        return LONG_PRODUCT
    if field(word, 23, 2) == 2 and field(word, 20, 2) == 0 and field(word, 8, 4) == 0:
        return EXCHANGE
    return UNDEFINED
