"""The modes, what is put away and taken up with them, and the exceptions that enter them."""

USER = 0x10
FIQ = 0x11
IRQ = 0x12
SVC = 0x13
UND = 0x1B

MODE_BITS = 0x1F
INTERRUPTS_OUT = 0x80
FAST_OUT = 0x40

# Where the pair of a mode begins in the banks: user and system share one, then IRQ, SVC, ABT, UND.
# FIQ has none here: its R13 and R14 are put away in high, behind its R8 to R12.
PAIR_STARTS = {0x10: 0, 0x1F: 0, 0x12: 2, 0x13: 4, 0x17: 6, 0x1B: 8}

# Which of the saved statuses is a mode's: FIQ, IRQ, SVC, ABT, UND. User and system have none.
SAVED_INDEXES = {0x11: 0, 0x12: 1, 0x13: 2, 0x17: 3, 0x1B: 4}


def mode_of(status):
    """The mode's number in a status."""
    return status & MODE_BITS


def has_mode(status):
    """Whether the mode in a status is one."""
    return mode_of(status) in PAIR_STARTS or mode_of(status) in SAVED_INDEXES


def has_saved(core):
    """Whether the mode in use has a saved status (user and system have none)."""
    return mode_of(core.status) in SAVED_INDEXES


def saved_status(core):
    """The saved status of the mode in use."""
    return core.saved[SAVED_INDEXES[mode_of(core.status)]]


def set_saved_status(core, status):
    """Write the saved status of the mode in use."""
    core.saved[SAVED_INDEXES[mode_of(core.status)]] = status


def can_return(core):
    """Whether there is a saved status to bring back, with a mode that is one."""
    return has_saved(core) and has_mode(saved_status(core))


def take_up(core, status):
    """Write the status and take up its mode."""
    old = mode_of(core.status)
    new = mode_of(status)
    core.status = status
    if old in PAIR_STARTS:
        put_pair_away(core, PAIR_STARTS[old])
    if (old == FIQ) != (new == FIQ):
        change_sevens(core)
    if new in PAIR_STARTS:
        take_pair(core, PAIR_STARTS[new])


def put_pair_away(core, start):
    """R13 and R14 into the banks."""
    core.banks[start] = core.regs[13]
    core.banks[start + 1] = core.regs[14]


def take_pair(core, start):
    """R13 and R14 out of the banks."""
    core.regs[13] = core.banks[start]
    core.regs[14] = core.banks[start + 1]


def change_sevens(core):
    """R8 to R14 and high change places."""
    sevens = core.regs[8:15]
    for k in range(7):
        core.regs[8 + k] = core.high[k]
    core.high = sevens


def enter_exception(core, mode, place, back):
    """Save the status, enter the mode with interrupts kept out (in FIQ's, fast ones too), and go on at the place."""
    old = core.status
    kept_out = (INTERRUPTS_OUT | FAST_OUT) if mode == FIQ else INTERRUPTS_OUT
    take_up(core, (old & ~MODE_BITS) | mode | kept_out)
    set_saved_status(core, old)
    core.regs[14] = back
    core.regs[15] = place
