"""0220 to 0237 and 0270 to 0277."""

import unittest

from helper import C0, C1, HIGHEST, LAST_PLACE, LOWEST, ND, ONES, THERE, V, MachineTest, ins, minus, w

BIG = 0o200000000000
NOT_DIVIDED = V | ND

# a, it, the sum, the flags.
SUMS = [
    (0, 0, 0, 0),
    (1, 1, 2, 0),
    (0o777777, 1, w(1, 0), 0),
    (w(0o123456, 0o765432), w(0o654321, 0o012345), ONES, 0),
    (LOWEST, HIGHEST, ONES, 0),
    (HIGHEST, 1, LOWEST, C1 | V),
    (BIG, BIG, LOWEST, C1 | V),
    (HIGHEST, HIGHEST, minus(2), C1 | V),
    (LOWEST, LOWEST, 0, C0 | V),
    (LOWEST, ONES, HIGHEST, C0 | V),
    (ONES, 1, 0, C0 | C1),
    (ONES, ONES, minus(2), C0 | C1),
    (minus(5), 7, 2, C0 | C1),
    (minus(5), 3, minus(2), 0),
]

# a, it, the difference, the flags.
DIFFERENCES = [
    (0, 0, 0, C0 | C1),
    (5, 3, 2, C0 | C1),
    (3, 5, minus(2), 0),
    (0, 1, ONES, 0),
    (w(1, 0), 1, 0o777777, C0 | C1),
    (LOWEST, 1, HIGHEST, C0 | V),
    (LOWEST, HIGHEST, 1, C0 | V),
    (HIGHEST, ONES, LOWEST, C1 | V),
    (0, LOWEST, LOWEST, C1 | V),
    (LOWEST, LOWEST, 0, C0 | C1),
    (ONES, ONES, 0, C0 | C1),
    (ONES, LOWEST, HIGHEST, C0 | C1),
]

# a, it, the product as one word, V or 0.
PRODUCTS = [
    (3, 5, 0o17, 0),
    (minus(3), 5, minus(15), 0),
    (3, minus(5), minus(15), 0),
    (minus(3), minus(5), 0o17, 0),
    (0, ONES, 0, 0),
    (LOWEST, 0, 0, 0),
    (HIGHEST, 1, HIGHEST, 0),
    (HIGHEST, ONES, w(0o400000, 1), 0),
    (0o400000, 0o400000, BIG, 0),
    (w(1, 0), 0o400000, LOWEST, V),
    (w(0o777777, 0), 0o400000, LOWEST, 0),
    (LOWEST, 1, LOWEST, 0),
    (LOWEST, ONES, LOWEST, V),
    (LOWEST, LOWEST, 0, V),
    (LOWEST, 3, LOWEST, V),
    (HIGHEST, 2, minus(2), V),
    (HIGHEST, HIGHEST, 1, V),
    (w(0o577777, 0o777777), 2, w(0o377777, 0o777776), V),
]

# a, it, the product's two words, V or 0.
LONG_PRODUCTS = [
    (3, 5, 0, 0o17, 0),
    (minus(3), 5, ONES, minus(15), 0),
    (3, minus(5), ONES, minus(15), 0),
    (minus(3), minus(5), 0, 0o17, 0),
    (0, minus(5), 0, 0, 0),
    (BIG, 2, 1, 0, 0),
    (minus(BIG), 2, ONES, LOWEST, 0),
    (BIG, BIG, 0o100000000000, 0, 0),
    (HIGHEST, HIGHEST, w(0o377777, 0o777776), 1, 0),
    (HIGHEST, ONES, ONES, w(0o400000, 1), 0),
    (LOWEST, HIGHEST, w(0o400000, 1), LOWEST, 0),
    (LOWEST, 1, ONES, LOWEST, 0),
    (LOWEST, ONES, 1, 0, 0),
    (LOWEST, LOWEST, LOWEST, 0, V),
]

# a, it, the quotient, the rest.
QUOTIENTS = [
    (7, 2, 3, 1),
    (minus(7), 2, minus(3), minus(1)),
    (7, minus(2), minus(3), 1),
    (minus(7), minus(2), 3, minus(1)),
    (6, 3, 2, 0),
    (minus(6), 3, minus(2), 0),
    (0, 5, 0, 0),
    (5, 7, 0, 5),
    (minus(5), 7, 0, minus(5)),
    (5, minus(7), 0, 5),
    (HIGHEST, 1, HIGHEST, 0),
    (HIGHEST, ONES, w(0o400000, 1), 0),
    (LOWEST, 1, LOWEST, 0),
    (LOWEST, LOWEST, 1, 0),
    (HIGHEST, LOWEST, 0, HIGHEST),
    (LOWEST, HIGHEST, ONES, ONES),
    (LOWEST, 2, minus(BIG), 0),
]
NO_QUOTIENTS = [(LOWEST, ONES), (5, 0), (0, 0), (minus(5), 0), (LOWEST, 0)]

# a, b, it, the quotient, the rest.
LONG_QUOTIENTS = [
    (0, 7, 2, 3, 1),
    (0, w(0o400000, 7), 2, 3, 1),
    (ONES, w(0o777777, 0o777771), 2, minus(3), minus(1)),
    (ONES, w(0o377777, 0o777771), 2, minus(3), minus(1)),
    (0, 7, minus(2), minus(3), 1),
    (ONES, w(0o377777, 0o777771), minus(2), 3, minus(1)),
    (0, 0, 5, 0, 0),
    (1, 0, 2, BIG, 0),
    (1, HIGHEST, 2, HIGHEST, 1),
    (minus(2), 0, 2, LOWEST, 0),
    (minus(3), HIGHEST, 2, LOWEST, minus(1)),
    (2, 0, minus(2), LOWEST, 0),
    (2, 1, minus(2), LOWEST, 1),
    (0, HIGHEST, 1, HIGHEST, 0),
    (ONES, 0, 1, LOWEST, 0),
    (1, 0, ONES, LOWEST, 0),
    (ONES, 1, ONES, HIGHEST, 0),
    (LOWEST, 1, LOWEST, HIGHEST, w(0o400000, 1)),
    (HIGHEST, HIGHEST, LOWEST, w(0o400000, 1), HIGHEST),
]
NO_LONG_QUOTIENTS = [
    (2, 0, 2),
    (minus(3), HIGHEST - 1, 2),
    (2, 2, minus(2)),
    (1, 0, 1),
    (ONES, 0, ONES),
    (minus(2), HIGHEST, 1),
    (LOWEST, 0, LOWEST),
    (HIGHEST, HIGHEST, HIGHEST),
    (0, 7, 0),
    (0, 0, 0),
    (ONES, ONES, 0),
    (ONES, 5, 0),
]


class OneWordTest(MachineTest):
    def check_ways(self, op, a, it, word, flag):
        """The ways that take e, each with A 0 and not 0."""
        for ac in (0, 3):
            words = {ac: a, THERE: it}
            self.check(ins(op, ac, THERE), words, {ac: word}, flag=flag)
            self.check(ins(op + 2, ac, THERE), words, {THERE: word}, flag=flag)
            self.check(ins(op + 3, ac, THERE), words, {ac: word, THERE: word}, flag=flag)

    def test_sums(self):
        for a, it, word, flag in SUMS:
            self.check_ways(0o270, a, it, word, flag)
            self.check_ways(0o270, it, a, word, flag)

    def test_differences(self):
        for a, it, word, flag in DIFFERENCES:
            self.check_ways(0o274, a, it, word, flag)

    def test_products(self):
        for a, it, word, flag in PRODUCTS:
            self.check_ways(0o220, a, it, word, flag)
            self.check_ways(0o220, it, a, word, flag)

    def test_with_0_e(self):
        self.check(ins(0o271, 3, 5), {3: 6, 5: 99}, {3: 0o13})
        self.check(ins(0o271, 0, LAST_PLACE), {0: 1}, {0: w(1, 0)})
        self.check(ins(0o271, 3, 1), {3: ONES}, {3: 0}, flag=C0 | C1)
        self.check(ins(0o271, 3, 0o400000), {3: minus(1)}, {3: 0o377777}, flag=C0 | C1)
        self.check(ins(0o275, 3, 5), {3: 6, 5: 99}, {3: 1}, flag=C0 | C1)
        self.check(ins(0o275, 0, LAST_PLACE), {0: 0}, {0: w(0o777777, 1)})
        self.check(ins(0o275, 3, 0), {3: 7}, {3: 7}, flag=C0 | C1)
        self.check(ins(0o221, 3, 5), {3: 6, 5: 99}, {3: 0o36})
        self.check(ins(0o221, 0, LAST_PLACE), {0: 3}, {0: w(2, 0o777775)})
        self.check(ins(0o221, 3, LAST_PLACE), {3: ONES}, {3: w(0o777777, 1)})
        self.check(ins(0o221, 3, 0o400000), {3: w(1, 0)}, {3: LOWEST}, flag=V)

    def test_e_is_a_itself(self):
        for way in (0, 2, 3):
            self.check(ins(0o270 + way, 3, 3), {3: 5}, {3: 0o12})
            self.check(ins(0o274 + way, 3, 3), {3: 5}, {3: 0}, flag=C0 | C1)
            self.check(ins(0o220 + way, 3, 3), {3: 5}, {3: 0o31})

    def test_e_is_another_of_the_registers(self):
        self.check(ins(0o272, 3, 4), {3: 5, 4: 6}, {4: 0o13})
        self.check(ins(0o273, 3, 4), {3: 5, 4: 6}, {3: 0o13, 4: 0o13})
        self.check(ins(0o276, 3, 4), {3: 6, 4: 5}, {4: 1}, flag=C0 | C1)

    def test_flags_stay_once_set(self):
        self.check(ins(0o270, 3, THERE), {3: 1, THERE: 1}, {3: 2}, had=V | C1)
        self.check(ins(0o270, 3, THERE), {3: ONES, THERE: 1}, {3: 0}, flag=C0 | C1, had=V | ND)
        self.check(ins(0o270, 3, THERE), {3: HIGHEST, THERE: 1}, {3: LOWEST}, flag=C1 | V, had=C0)
        self.check(ins(0o220, 3, THERE), {3: 2, THERE: 3}, {3: 6}, had=V)
        self.check(ins(0o220, 3, THERE), {3: LOWEST, THERE: LOWEST}, {3: 0}, flag=V, had=C0 | ND)


class TwoWordsTest(MachineTest):
    def check_ways(self, op, before, it, first, second, flag=0):
        """The ways that take e; before: a alone, or a and b."""
        for ac, after in ((3, 4), (15, 0), (0, 1)):
            words = {ac: before[0], after: before[1], THERE: it}
            self.check(ins(op, ac, THERE), words, {ac: first, after: second}, flag=flag)
            self.check(ins(op + 2, ac, THERE), words, {THERE: first}, flag=flag)
            self.check(ins(op + 3, ac, THERE), words, {ac: first, after: second, THERE: first}, flag=flag)

    def check_not_divided(self, op, a, b, it):
        for ac, after in ((3, 4), (15, 0)):
            for way in (0, 2, 3):
                self.check(ins(op + way, ac, THERE), {ac: a, after: b, THERE: it}, {}, flag=NOT_DIVIDED)

    def test_products(self):
        for a, it, first, second, flag in LONG_PRODUCTS:
            self.check_ways(0o224, (a, 77), it, first, second, flag)
            self.check_ways(0o224, (it, ONES), a, first, second, flag)

    def test_quotients(self):
        for a, it, quotient, rest in QUOTIENTS:
            self.check_ways(0o230, (a, 77), it, quotient, rest)

    def test_no_quotients(self):
        for a, it in NO_QUOTIENTS:
            self.check_not_divided(0o230, a, 77, it)

    def test_quotients_of_two_words(self):
        for a, b, it, quotient, rest in LONG_QUOTIENTS:
            self.check_ways(0o234, (a, b), it, quotient, rest)
            self.check_ways(0o234, (a, b ^ LOWEST), it, quotient, rest)

    def test_no_quotients_of_two_words(self):
        for a, b, it in NO_LONG_QUOTIENTS:
            self.check_not_divided(0o234, a, b, it)
            self.check_not_divided(0o234, a, b ^ LOWEST, it)

    def test_with_0_e(self):
        self.check(ins(0o225, 3, 5), {3: minus(6), 4: 77, 5: 99}, {3: ONES, 4: minus(30)})
        self.check(ins(0o225, 15, LAST_PLACE), {15: BIG, 0: 77}, {15: 0o377777, 0: BIG})
        self.check(ins(0o231, 3, 5), {3: minus(7), 4: 77, 5: 99}, {3: minus(1), 4: minus(2)})
        self.check(ins(0o231, 3, LAST_PLACE), {3: ONES, 4: 77}, {3: 0, 4: ONES})
        self.check(ins(0o231, 3, 0), {0: 5, 3: 6, 4: 77}, {}, flag=NOT_DIVIDED)
        self.check(ins(0o235, 3, 5), {3: 0, 4: 7, 5: 99}, {3: 1, 4: 2})
        self.check(ins(0o235, 15, LAST_PLACE), {15: ONES, 0: HIGHEST}, {15: 0, 0: ONES})
        self.check(ins(0o235, 3, 2), {3: 2, 4: 0}, {}, flag=NOT_DIVIDED)
        self.check(ins(0o235, 3, 0), {0: 5, 3: 0, 4: 6}, {}, flag=NOT_DIVIDED)

    def test_e_is_a_itself(self):
        self.check(ins(0o224, 3, 3), {3: BIG, 4: 77}, {3: 0o100000000000, 4: 0})
        self.check(ins(0o226, 3, 3), {3: BIG, 4: 77}, {3: 0o100000000000})
        self.check(ins(0o227, 3, 3), {3: minus(5), 4: 77}, {3: 0, 4: 0o31})
        self.check(ins(0o230, 3, 3), {3: minus(5), 4: 77}, {3: 1, 4: 0})
        self.check(ins(0o236, 3, 3), {3: 5, 4: 3}, {}, flag=NOT_DIVIDED)
        self.check(ins(0o237, 3, 3), {3: minus(1), 4: HIGHEST}, {3: 1, 4: 0})

    def test_e_is_the_one_after_a(self):
        self.check(ins(0o224, 3, 4), {3: minus(3), 4: 5}, {3: ONES, 4: minus(15)})
        self.check(ins(0o226, 3, 4), {3: minus(3), 4: 5}, {4: ONES})
        self.check(ins(0o227, 3, 4), {3: minus(3), 4: 5}, {3: ONES, 4: minus(15)})
        self.check(ins(0o230, 3, 4), {3: 7, 4: 2}, {3: 3, 4: 1})
        self.check(ins(0o232, 3, 4), {3: 7, 4: 2}, {4: 3})
        self.check(ins(0o233, 15, 0), {15: 7, 0: 2}, {15: 3, 0: 1})
        self.check(ins(0o234, 3, 4), {3: 0, 4: 7}, {3: 1, 4: 0})
        self.check(ins(0o237, 3, 4), {3: 0, 4: 7}, {3: 1, 4: 0})

    def test_flags_stay_once_set(self):
        self.check(ins(0o224, 3, THERE), {3: LOWEST, THERE: LOWEST}, {3: LOWEST, 4: 0}, flag=V, had=C0 | ND)
        self.check(ins(0o230, 3, THERE), {3: 5}, {}, flag=NOT_DIVIDED, had=C1)
        self.check(ins(0o230, 3, THERE), {3: 5, THERE: 5}, {3: 1}, had=V | ND)


if __name__ == "__main__":
    unittest.main()
