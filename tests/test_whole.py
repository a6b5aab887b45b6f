"""What holds for all three calls: the paragraph that ends the document, sentence by sentence."""

import contextlib
import importlib
import inspect
import io
import pathlib
import subprocess
import sys
import unittest
from unittest import mock

from condwords.machine import arm_interrupt, arm_run, arm_step
from tests.support import (
    ADD, F, FIQ, I, IRQ, MODES, PC, SVC, USER, WORD, jump, make_state, many, msr_number, mul, program_pokes, single,
    sum_by_number, sum_of, swp,
)

ROOT = pathlib.Path(__file__).resolve().parent.parent
DATA = 0x4000
OTHER_BITS = 0x0FFFFF20

PARAMETERS = {
    "arm_step": ["state", "pokes", "looks"],
    "arm_run": ["steps", "state", "pokes", "looks"],
    "arm_interrupt": ["fast", "state", "pokes", "looks"],
}
CALLS = {"arm_step": arm_step, "arm_run": arm_run, "arm_interrupt": arm_interrupt}

# Each ends otherwise: done, with memory changed, with the mode changed, with an exception, left unsaid.
PROGRAMS = (
    [0xE1A00000, sum_by_number(ADD, 1, 0, 0, 1), WORD],
    [single(0, 0, 1), many(0, 1, [2, 3, 8, 13, 14]), single(0, 0, 1, 4, byte=1), swp(2, 3, 1), 0xE1A00000],
    [msr_number(FIQ), sum_of(ADD, 1, 8, 8, 8), msr_number(IRQ), msr_number(USER), 0xEF000000],
    [0xEE000000, WORD],
    [mul(1, 1, 2)],
    [sum_by_number(ADD, 0, 0, 0, 1), jump(0xFFFFFD)],
)


def cases():
    """The calls' names, with all that is handed in."""
    found = []
    for k, words in enumerate(PROGRAMS):
        for mode in MODES + (0x14,):
            bits = OTHER_BITS | (0, I, F, I | F)[k % 4]
            rest = [
                make_state(mode, bits, PC + (2 if k == 5 and mode == SVC else 0), regs=[(1, DATA)]),
                [DATA, 1, DATA + 1, 5, DATA, 2, 0x18, 7] + program_pokes(words),
                [DATA, DATA + 1, DATA, 0x18, PC, PC + 1],
            ]
            found.append(("arm_step", rest))
            found += [("arm_run", [steps] + rest) for steps in (0, 1, 3, 50, 1000001)]
            found += [("arm_interrupt", [fast] + rest) for fast in (0, 1, 4294967295)]
    return found


CASES = cases()


def copied(given):
    return [list(part) if isinstance(part, list) else part for part in given]


def answers(calls, wanted):
    return [calls[name](*copied(given)) for name, given in wanted]


def own_modules():
    return {name: module for name, module in sys.modules.items() if name.split(".")[0] == "condwords"}


@contextlib.contextmanager
def loaded_anew():
    """The three calls of a package that has not been called before."""
    kept = own_modules()
    for name in kept:
        sys.modules.pop(name)
    try:
        machine = importlib.import_module("condwords.machine")
        yield {name: getattr(machine, name) for name in PARAMETERS}
    finally:
        for name in own_modules():
            sys.modules.pop(name)
        sys.modules.update(kept)


def refused(*given, **named):
    raise AssertionError("what is handed in was changed, or something was read, printed or imported")


class Untouched(list):
    """A list that can't be changed, not for a while either."""

    __setitem__ = __delitem__ = __iadd__ = __imul__ = refused
    append = clear = extend = insert = pop = remove = reverse = sort = refused


class TheCases(unittest.TestCase):
    def test_each_way_to_end_is_among_them(self):
        seen = {name: set() for name in PARAMETERS}
        for name, given in CASES:
            seen[name].add(CALLS[name](*given)[0])
        self.assertEqual(seen["arm_step"], {0, -1, -2})
        self.assertEqual(seen["arm_interrupt"], {0, 1, -2})
        self.assertTrue({0, 1, 2, 3, 50, -2, -3} <= seen["arm_run"], seen["arm_run"])


class WholeNumbersAndLists(unittest.TestCase):
    def test_what_is_answered(self):
        for name, given in CASES:
            answered = CALLS[name](*given)
            self.assertIs(type(answered), list)
            self.assertEqual([number for number in answered if type(number) is not int], [])
            alone = answered[0] < 0 or (name == "arm_interrupt" and answered[0] == 0)
            self.assertEqual(len(answered), 1 if alone else 40 + len(given[-1]))
            self.assertTrue(all(0 <= number <= WORD for number in answered[1:]))


class HandedIn(unittest.TestCase):
    def test_it_stays_as_it_was(self):
        for name, given in CASES:
            kept = copied(given)
            CALLS[name](*given)
            self.assertEqual(given, kept, name)

    def test_it_is_not_changed_for_a_while_either(self):
        for name, given in CASES:
            guarded = [Untouched(part) if isinstance(part, list) else part for part in given]
            self.assertEqual(CALLS[name](*guarded), CALLS[name](*given), name)

    def test_one_list_may_be_handed_in_twice(self):
        for name in PARAMETERS:
            ahead = [] if name == "arm_step" else [1]
            both = [0x18, 7, 0x19, 8]
            answered = CALLS[name](*ahead, make_state(SVC), both, both)
            self.assertEqual((answered[0], answered[40:]), (len(ahead), [7, 0, 8, 0]))
            self.assertEqual(both, [0x18, 7, 0x19, 8])

    def test_what_is_answered_may_be_changed(self):
        for name, given in CASES:
            first = CALLS[name](*given)
            kept = list(first)
            first[:] = [5] * len(first)
            self.assertEqual(CALLS[name](*given), kept, name)

    def test_just_what_is_told(self):
        for name, parameters in PARAMETERS.items():
            signature = inspect.signature(CALLS[name])
            self.assertEqual(list(signature.parameters), parameters)
            for parameter in signature.parameters.values():
                self.assertIs(parameter.default, inspect.Parameter.empty)
                self.assertIs(parameter.kind, inspect.Parameter.POSITIONAL_OR_KEYWORD)


class NothingIsKept(unittest.TestCase):
    def test_each_time_is_like_the_first(self):
        later = answers(CALLS, CASES)
        for k in range(0, len(CASES), 7):
            with loaded_anew() as calls:
                self.assertEqual(answers(calls, [CASES[k]]), [later[k]], CASES[k][0])

    def test_whatever_came_before(self):
        forwards = answers(CALLS, CASES)
        backwards = answers(CALLS, CASES[::-1])
        self.assertEqual(backwards[::-1], forwards)
        twice = answers(CALLS, [case for case in CASES for k in range(2)])
        self.assertEqual((twice[0::2], twice[1::2]), (forwards, forwards))

    def test_memory_is_not_kept(self):
        store = program_pokes([single(0, 0, 1)])
        state = make_state(SVC, regs=[(0, WORD), (1, DATA)])
        looks = [DATA, DATA + 1, DATA + 2, DATA + 3]
        self.assertEqual(arm_step(state, store, looks)[40:], [255] * 4)
        self.assertEqual(arm_run(1, state, store, looks)[40:], [255] * 4)
        self.assertEqual(arm_interrupt(1, state, [DATA, 9], looks)[40:], [9, 0, 0, 0])
        for ahead, name in (([], "arm_step"), ([3], "arm_run"), ([0], "arm_interrupt")):
            self.assertEqual(CALLS[name](*ahead, state, [], looks)[40:], [0] * 4)

    def test_the_files_hold_what_they_held(self):
        before = self.what_is_held()
        answers(CALLS, CASES)
        self.assertEqual(self.what_is_held(), before)

    def what_is_held(self):
        """Each file's values, and what its functions carry about with them."""
        held = {}
        for name, module in own_modules().items():
            for key, value in vars(module).items():
                if inspect.isfunction(value):
                    held[name, key] = (repr(value.__defaults__), dict(value.__dict__), value.__closure__)
                elif inspect.isclass(value):
                    held[name, key] = sorted(vars(value))
                elif not key.startswith("__"):
                    held[name, key] = repr(value)
        return held


class NothingIsPrinted(unittest.TestCase):
    def test_nothing_is_printed_read_or_imported(self):
        for name in PARAMETERS:
            out = io.StringIO()
            ahead = mock.patch.multiple("builtins", print=refused, open=refused, input=refused, __import__=refused)
            with contextlib.redirect_stdout(out), contextlib.redirect_stderr(out), mock.patch("sys.stdin", None), ahead:
                answers(CALLS, [case for case in CASES if case[0] == name])
            self.assertEqual(out.getvalue(), "", name)

    def test_a_process_of_its_own_stays_silent(self):
        for name in PARAMETERS:
            lines = (
                "from tests.test_whole import CALLS, CASES, answers\n"
                f"answers(CALLS, [case for case in CASES if case[0] == {name!r}])")
            ended = subprocess.run(
                [sys.executable, "-B", "-c", lines], cwd=ROOT, stdin=subprocess.DEVNULL, capture_output=True, check=False)
            self.assertEqual((ended.returncode, ended.stdout, ended.stderr), (0, b"", b""), name)


class GoneThroughByLoops(unittest.TestCase):
    def test_few_calls_within_one_another(self):
        pokes = [number for k in range(24496) for number in (0x40000 + k, k % 256)]
        pokes += program_pokes([jump(0xFFFFFE)])
        rest = [make_state(SVC), pokes, [0x40000 + k for k in range(49000)]]
        self.assertEqual((len(rest[1]), len(rest[2])), (49000, 49000))
        usual = sys.getrecursionlimit()
        sys.setrecursionlimit(len(inspect.stack(0)) + 40)
        try:
            numbers = [arm_step(*rest)[0], arm_run(20000, *rest)[0], arm_interrupt(0, *rest)[0]]
        finally:
            sys.setrecursionlimit(usual)
        self.assertEqual(numbers, [0, 20000, 1])
