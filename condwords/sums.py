"""Data processing: an operation on a first operand and a shifted second one."""

from condwords.bits import WORD, bit, field, has_r15
from condwords.conditions import OVERFLOW, carry_of, tell_all
from condwords.core import operand, set_result
from condwords.modes import can_return, saved_status, take_up
from condwords.shifts import shift_by_byte, shift_by_number, turned_number

AND = 0
EOR = 1
SUB = 2
RSB = 3
ADD = 4
ADC = 5
SBC = 6
TST = 8
TEQ = 9
CMP = 10
CMN = 11
ORR = 12
MOV = 13
BIC = 14

# SUB to RSC, CMP and CMN: those whose C and V come from a sum, not from the shift.
ARITHMETIC = (2, 3, 4, 5, 6, 7, 10, 11)


def is_comparison(word):
    """Whether the operation has no result but N, Z, C and V."""
    return TST <= field(word, 21, 4) <= CMN


def is_shifted_by_byte(word):
    """Whether the shift is told by one of the registers."""
    return bit(word, 25) == 0 and bit(word, 4) == 1


def sum_unsaid(core, word):
    """Whether this data processing is left unsaid."""
    if is_shifted_by_byte(word) and has_r15(word):
        return True
    if field(word, 12, 4) != 15:
        return False
    if is_comparison(word):
        return True
    return bit(word, 20) == 1 and not can_return(core)


def do_sum(core, word):
    """Do a data processing instruction."""
    operation = field(word, 21, 4)
    first = operand(core, field(word, 16, 4))
    second = second_operand(core, word)
    if operation in ARITHMETIC:
        outcome = arithmetic(operation, first, second[0], carry_of(core))
    else:
        outcome = (logic(operation, first, second[0]), second[1], bit(core.status, OVERFLOW))
    if not is_comparison(word):
        set_result(core, field(word, 12, 4), outcome[0])
    if bit(word, 20) == 0:
        return
    # A comparison into R15 is left unsaid, so R15 here is a result: a return.
    if field(word, 12, 4) == 15:
        take_up(core, saved_status(core))
    else:
        tell_all(core, outcome[0], outcome[1], outcome[2])


def second_operand(core, word):
    """The second operand and the carry out of its shift."""
    carry = carry_of(core)
    if bit(word, 25) == 1:
        return turned_number(word, carry)
    kind = field(word, 5, 2)
    value = operand(core, field(word, 0, 4))
    if is_shifted_by_byte(word):
        return shift_by_byte(kind, value, core.regs[field(word, 8, 4)] & 255, carry)
    return shift_by_number(kind, value, field(word, 7, 5), carry)


def logic(operation, first, second):
    """The result of an operation that works bit by bit."""
    if operation in (AND, TST):
        return first & second
    if operation in (EOR, TEQ):
        return first ^ second
    if operation == ORR:
        return first | second
    if operation == MOV:
        return second
    if operation == BIC:
        return first & ~second
    return second ^ WORD


def arithmetic(operation, first, second, carry):
    """The result, C and V of a sum or a difference."""
    if operation in (SUB, CMP):
        return add(first, second ^ WORD, 1)
    if operation == RSB:
        return add(second, first ^ WORD, 1)
    if operation in (ADD, CMN):
        return add(first, second, 0)
    if operation == ADC:
        return add(first, second, carry)
    if operation == SBC:
        return add(first, second ^ WORD, carry)
    return add(second, first ^ WORD, carry)


def add(first, second, carry):
    """The sum of two words and a carry, with C and V."""
    total = first + second + carry
    result = total & WORD
    return (result, total >> 32, bit((first ^ result) & (second ^ result), 31))
