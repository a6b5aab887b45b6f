"""The conditions, when each holds and when it doesn't."""

from tests.support import (
    C, MOV, N, SAVED, STATUS, SVC, StepCase, UND, USER, V, Z, jump, make_state, mul, sum_by_number, sum_of,
)

# For each condition those of the sixteen N Z C V, read as a number, with which it holds.
HOLDS_WITH = {
    0: (4, 5, 6, 7, 12, 13, 14, 15),
    1: (0, 1, 2, 3, 8, 9, 10, 11),
    2: (2, 3, 6, 7, 10, 11, 14, 15),
    3: (0, 1, 4, 5, 8, 9, 12, 13),
    4: (8, 9, 10, 11, 12, 13, 14, 15),
    5: (0, 1, 2, 3, 4, 5, 6, 7),
    6: (1, 3, 5, 7, 9, 11, 13, 15),
    7: (0, 2, 4, 6, 8, 10, 12, 14),
    8: (2, 3, 10, 11),
    9: (0, 1, 4, 5, 6, 7, 8, 9, 12, 13, 14, 15),
    10: (0, 2, 4, 6, 9, 11, 13, 15),
    11: (1, 3, 5, 7, 8, 10, 12, 14),
    12: (0, 2, 9, 11),
    13: (1, 3, 4, 5, 6, 7, 8, 10, 12, 13, 14, 15),
    14: tuple(range(16)),
}


class Conditions(StepCase):
    def test_each_with_each_status(self):
        for cond, statuses in HOLDS_WITH.items():
            for told in range(16):
                changes = {0: 99} if told in statuses else {}
                self.assert_step(sum_by_number(MOV, 0, 0, 0, 99, cond=cond), make_state(bits=told << 28), changes)

    def test_the_bits_are_those_of_the_status(self):
        for cond, told in ((0, Z), (2, C), (4, N), (6, V)):
            for other in (N, Z, C, V):
                changes = {15: 0x8008} if other == told else {}
                self.assert_step(jump(0, cond=cond), make_state(bits=other), changes)

    def test_fifteen_is_left_unsaid(self):
        for told in range(16):
            state = make_state(bits=told << 28)
            self.assert_unsaid(sum_by_number(MOV, 0, 0, 0, 99, cond=15), state)
            self.assert_unsaid(jump(0, cond=15), state)
            self.assert_unsaid(0xFF000000, state)
            self.assert_unsaid(0xFE000000, state)

    def test_what_is_not_due_is_passed_over_whatever_it_is(self):
        state = make_state()
        self.assert_step(0x0F000000, state, {})
        self.assert_step(0x0E000000, state, {})
        self.assert_step(0x06000010, state, {})
        self.assert_step(0x012FFF1E, state, {})

    def test_what_is_left_unsaid_is_passed_over_where_it_is_not_due(self):
        state = make_state()
        self.assert_unsaid(mul(1, 1, 2), state)
        self.assert_step(mul(1, 1, 2) & 0x0FFFFFFF, state, {})
        self.assert_step(sum_of(MOV, 1, 0, 15, 0, cond=0), make_state(USER), {})
        self.assert_step(0x00400090, state, {})

    def test_an_exception_that_is_due(self):
        state = make_state(SVC, Z)
        self.assertEqual(self.answer(0x0F000000, state)[16], 8)
        self.assertEqual(self.answer(0x1F000000, make_state())[16], 8)
        self.assertEqual(self.answer(0x1E000000, make_state())[16], 4)
        answered = self.answer(0x0E000000, state)
        self.assertEqual((answered[16], answered[1 + SAVED[UND]]), (4, SVC | Z))
        self.assertEqual(answered[1 + STATUS] & 31, UND)
