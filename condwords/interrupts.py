"""Interrupts, fast ones and others: let in between two instructions, or kept out."""

from condwords.bits import WORD
from condwords.modes import FAST_OUT, FIQ, INTERRUPTS_OUT, IRQ, enter_exception


def interrupt(core, is_fast):
    """Let an interrupt in and answer True; where it is kept out, do nothing and answer False."""
    keeps_out = FAST_OUT if is_fast else INTERRUPTS_OUT
    if (core.status & keeps_out) != 0:
        return False
    # No instruction is under way, so R15 is where it would go on.
    back = (core.regs[15] + 4) & WORD
    if is_fast:
        enter_exception(core, FIQ, 0x1C, back)
    else:
        enter_exception(core, IRQ, 0x18, back)
    return True
