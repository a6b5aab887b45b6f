"""The calls: each takes a state and a memory, and answers what becomes of them."""

from condwords.core import Core, load_byte
from condwords.modes import has_mode
from condwords.steps import step

UNSAID_REFUSAL = -1
STATE_REFUSAL = -2


def arm_step(state, pokes, looks):
    """Do one instruction: 0, the state's 39 numbers and the looks' bytes, or a refusal alone."""
    core = Core(state, pokes)
    if is_refused(core):
        return [STATE_REFUSAL]
    if not step(core):
        return [UNSAID_REFUSAL]
    return answer(0, core, looks)


def is_refused(core):
    """Whether the mode is none or R15 is no multiple of 4."""
    return not has_mode(core.status) or (core.regs[15] & 3) != 0


def answer(number, core, looks):
    """The number, the state behind it and the bytes at the places looked at."""
    return [number] + core.numbers() + [load_byte(core, place) for place in looks]
