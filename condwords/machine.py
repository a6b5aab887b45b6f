"""The calls: each takes a state and a memory, and answers what becomes of them."""

from condwords.core import Core, load_byte
from condwords.interrupts import interrupt
from condwords.modes import has_mode
from condwords.steps import step

UNSAID_REFUSAL = -1
STATE_REFUSAL = -2
STEPS_REFUSAL = -3

KEPT_OUT = 0
LET_IN = 1

MOST_STEPS = 1000000


def arm_step(state, pokes, looks):
    """Do one instruction: 0, the state's 39 numbers and the looks' bytes, or a refusal alone."""
    core = Core(state, pokes)
    if is_refused(core):
        return [STATE_REFUSAL]
    if not step(core):
        return [UNSAID_REFUSAL]
    return answer(0, core, looks)


def arm_run(steps, state, pokes, looks):
    """Do up to so many instructions: how many were done, the state's 39 numbers and the looks' bytes, or a refusal."""
    core = Core(state, pokes)
    if is_refused(core):
        return [STATE_REFUSAL]
    if steps > MOST_STEPS:
        return [STEPS_REFUSAL]
    return answer(count_steps(core, steps), core, looks)


def arm_interrupt(fast, state, pokes, looks):
    """Let an interrupt in: 1, the state's 39 numbers and the looks' bytes; kept out 0 alone, or a refusal alone."""
    core = Core(state, pokes)
    if is_refused(core):
        return [STATE_REFUSAL]
    if not interrupt(core, fast != 0):
        return [KEPT_OUT]
    return answer(LET_IN, core, looks)


def count_steps(core, most):
    """Do instructions until there are so many or one is left unsaid, and answer how many were done."""
    done = 0
    while done < most and step(core):
        done += 1
    return done


def is_refused(core):
    """Whether the mode is none or R15 is no multiple of 4."""
    return not has_mode(core.status) or (core.regs[15] & 3) != 0


def answer(number, core, looks):
    """The number, the state behind it and the bytes at the places looked at."""
    return [number] + core.numbers() + [load_byte(core, place) for place in looks]
