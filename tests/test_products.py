"""MUL, MLA, UMULL, UMLAL, SMULL, SMLAL."""

from tests.support import C, F, I, N, STATUS, SVC, StepCase, V, WORD, Z, long_product, make_state, mla, mul

# The factors, the product's lower word, its N and Z.
SHORT = [
    (3, 5, 15, 0),
    (0, 0xFFFFFFFF, 0, Z),
    (0xFFFFFFFF, 0xFFFFFFFF, 1, 0),
    (0xFFFFFFFF, 2, 0xFFFFFFFE, N),
    (0x10000, 0x10000, 0, Z),
    (0x12345678, 0x9ABCDEF0, 0x242D2080, 0),
    (0x8000, 0x10000, 0x80000000, N),
]

# With a sign or without, the factors, the product's upper and lower word.
LONG = [
    (0, 3, 5, 0, 15),
    (0, 0xFFFFFFFF, 0xFFFFFFFF, 0xFFFFFFFE, 1),
    (1, 0xFFFFFFFF, 0xFFFFFFFF, 0, 1),
    (0, 0xFFFFFFFF, 2, 1, 0xFFFFFFFE),
    (1, 0xFFFFFFFF, 2, 0xFFFFFFFF, 0xFFFFFFFE),
    (1, 2, 0xFFFFFFFF, 0xFFFFFFFF, 0xFFFFFFFE),
    (0, 0x80000000, 0x80000000, 0x40000000, 0),
    (1, 0x80000000, 0x80000000, 0x40000000, 0),
    (1, 0x80000000, 0x7FFFFFFF, 0xC0000000, 0x80000000),
    (0, 0, 0x12345678, 0, 0),
    (1, 0x12345678, 0, 0, 0),
    (0, 0x10000, 0x10000, 1, 0),
    (0, 0x10000, 0x8000, 0, 0x80000000),
]


def four_numbers():
    """Four numbers of registers, so that each of R0 to R14 comes in each place."""
    return [(k, (k + 3) % 15, (k + 7) % 15, (k + 10) % 15) for k in range(15)]


class Short(StepCase):
    def test_mul(self):
        for first, last, result, told in SHORT:
            state = make_state(bits=N | Z, regs=[(3, first), (4, last)])
            self.assert_step(mul(5, 3, 4), state, {5: result})
            for kept in (0, C, V, C | V):
                state = make_state(bits=kept | I | F, regs=[(3, first), (4, last)])
                self.assert_step(mul(5, 3, 4, s=1), state, {5: result, STATUS: told | kept | I | F | SVC})

    def test_mul_clears_n_and_z(self):
        state = make_state(bits=N | Z | C | V, regs=[(3, 2), (4, 3)])
        self.assert_step(mul(5, 3, 4, s=1), state, {5: 6, STATUS: C | V | SVC})

    def test_mla(self):
        for first, last, addend, result, told in (
                (3, 5, 7, 22, 0), (3, 5, 0xFFFFFFF1, 0, Z), (WORD, 1, 0, WORD, N), (WORD, WORD, WORD, 0, Z),
                (2, 0x40000000, 1, 0x80000001, N)):
            state = make_state(bits=C | V, regs=[(3, first), (4, last), (6, addend)])
            self.assert_step(mla(5, 3, 4, 6), state, {5: result})
            self.assert_step(mla(5, 3, 4, 6, s=1), state, {5: result, STATUS: told | C | V | SVC})

    def test_registers_that_may_be_one(self):
        state = make_state(regs=[(3, 7), (4, 6)])
        self.assert_step(mul(4, 3, 4), state, {4: 42})
        self.assert_step(mul(5, 3, 3), state, {5: 49})
        self.assert_step(mla(4, 3, 4, 4), state, {4: 48})
        self.assert_step(mla(5, 3, 3, 3), state, {5: 56})
        self.assert_step(mla(4, 3, 3, 4), state, {4: 55})

    def test_the_banked_ones_are_those_in_use(self):
        state = make_state(regs=[(13, 7), (14, 6)])
        self.assert_step(mul(8, 13, 14), state, {8: 42})


    def test_each_number_in_each_field(self):
        for rd, rm, rs, rn in four_numbers():
            state = make_state(regs=[(rm, 6), (rs, 7), (rn, 8)])
            self.assert_step(mul(rd, rm, rs), state, {rd: 42})
            self.assert_step(mla(rd, rm, rs, rn), state, {rd: 50})


class Long(StepCase):
    def test_each_number_in_each_field(self):
        for low, high, rm, rs in four_numbers():
            state = make_state(regs=[(rm, 0x60000), (rs, 0x70000), (low, 5), (high, 6)])
            self.assert_step(long_product(0, 0, low, high, rm, rs), state, {low: 0, high: 0x2A})
            self.assert_step(long_product(1, 1, low, high, rm, rs), state, {low: 5, high: 0x30})

    def test_products(self):
        for with_sign, first, last, upper, lower in LONG:
            told = (N if upper >> 31 else 0) | (Z if upper == lower == 0 else 0)
            state = make_state(bits=C | V, regs=[(3, first), (4, last)])
            self.assert_step(long_product(with_sign, 0, 5, 6, 3, 4), state, {5: lower, 6: upper})
            self.assert_step(long_product(with_sign, 0, 5, 6, 3, 4, s=1), state,
                             {5: lower, 6: upper, STATUS: told | C | V | SVC})

    def test_products_upon_a_sum(self):
        rows = [
            (0, 3, 5, 0, 1, 0, 16, 0),
            (0, WORD, WORD, WORD, WORD, 0xFFFFFFFE, 0, N),
            (0, WORD, WORD, 0, WORD, WORD, 0, N),
            (0, 2, 3, 0xFFFFFFFF, 0xFFFFFFFA, 0, 0, Z),
            (1, WORD, 1, 0, 1, 0, 0, Z),
            (1, WORD, 1, 0, 0, WORD, WORD, N),
            (1, WORD, WORD, 0, WORD, 1, 0, 0),
            (1, 0x80000000, 0x80000000, 0x40000000, 0, 0x80000000, 0, N),
        ]
        for with_sign, first, last, high, low, upper, lower, told in rows:
            state = make_state(bits=V, regs=[(3, first), (4, last), (5, low), (6, high)])
            self.assert_step(long_product(with_sign, 1, 5, 6, 3, 4), state, {5: lower, 6: upper})
            self.assert_step(long_product(with_sign, 1, 5, 6, 3, 4, s=1), state,
                             {5: lower, 6: upper, STATUS: told | V | SVC})

    def test_registers_that_may_be_one(self):
        state = make_state(regs=[(3, 7), (4, 6), (5, 0)])
        self.assert_step(long_product(0, 0, 4, 6, 3, 4), state, {4: 42, 6: 0})
        self.assert_step(long_product(0, 0, 6, 4, 3, 4), state, {6: 42, 4: 0})
        self.assert_step(long_product(0, 0, 4, 6, 3, 3), state, {4: 49, 6: 0})
        self.assert_step(long_product(0, 1, 4, 5, 3, 4), state, {4: 48, 5: 0})
