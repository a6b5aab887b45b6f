"""One instruction fetched, asked whether it is left unsaid, and done."""

from condwords.bits import WORD, bit, field, signed
from condwords.conditions import holds
from condwords.core import load_word, operand
from condwords.kinds import EXCHANGE, HALF, JUMP, LONG_PRODUCT, MANY, SHORT_PRODUCT, SINGLE, SOFTWARE_CALL
from condwords.kinds import STATUS_READ, STATUS_WRITE, SUM, UNSAID, kind_of
from condwords.many import do_many, many_unsaid
from condwords.modes import SVC, UND, enter_exception
from condwords.products import do_long, do_short, long_unsaid, short_unsaid
from condwords.statuses import do_read, do_write, read_unsaid, write_unsaid
from condwords.sums import do_sum, sum_unsaid
from condwords.transfers import do_exchange, do_half, do_single, exchange_unsaid, half_unsaid, single_unsaid


def step(core):
    """Do the instruction at R15 and answer True; where it is left unsaid, do nothing and answer False."""
    word = load_word(core, core.regs[15])
    condition = field(word, 28, 4)
    if condition == 15:
        return False
    kind = kind_of(word)
    is_due = holds(condition, core.status)
    if is_due and left_unsaid(core, kind, word):
        return False
    core.regs[15] = (core.regs[15] + 4) & WORD
    if is_due:
        carry_out(core, kind, word)
    return True


def left_unsaid(core, kind, word):
    """Whether the instruction is left unsaid."""
    if kind == SUM:
        return sum_unsaid(core, word)
    if kind == SHORT_PRODUCT:
        return short_unsaid(word)
    if kind == LONG_PRODUCT:
        return long_unsaid(word)
    if kind == EXCHANGE:
        return exchange_unsaid(word)
    if kind == STATUS_READ:
        return read_unsaid(core, word)
    if kind == STATUS_WRITE:
        return write_unsaid(core, word)
    if kind == SINGLE:
        return single_unsaid(word)
    if kind == HALF:
        return half_unsaid(word)
    if kind == MANY:
        return many_unsaid(core, word)
    return kind == UNSAID


def carry_out(core, kind, word):
    """Do an instruction whose condition holds and which is not left unsaid."""
    if kind == SUM:
        do_sum(core, word)
    elif kind == SHORT_PRODUCT:
        do_short(core, word)
    elif kind == LONG_PRODUCT:
        do_long(core, word)
    elif kind == EXCHANGE:
        do_exchange(core, word)
    elif kind == STATUS_READ:
        do_read(core, word)
    elif kind == STATUS_WRITE:
        do_write(core, word)
    elif kind == SINGLE:
        do_single(core, word)
    elif kind == HALF:
        do_half(core, word)
    elif kind == MANY:
        do_many(core, word)
    elif kind == JUMP:
        do_jump(core, word)
    elif kind == SOFTWARE_CALL:
        enter_exception(core, SVC, 8, core.regs[15])
    else:
        enter_exception(core, UND, 4, core.regs[15])


def do_jump(core, word):
    """Do B or BL."""
    target = operand(core, 15) + 4 * signed(field(word, 0, 24), 24)
    if bit(word, 24) == 1:
        core.regs[14] = core.regs[15]
    core.regs[15] = target & WORD
