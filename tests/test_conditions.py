"""0300 to 0377."""

import unittest

from helper import C0, C1, HIGHEST, LAST_PLACE, LOWEST, ND, ONES, START, THERE, V, MachineTest, ins, minus, w

BELOW, ZERO, ABOVE = 0, 1, 2

# By op's last three bits: whether it holds of a number below 0, of 0, of one above it.
HOLDS = [
    (False, False, False),
    (True, False, False),
    (False, True, False),
    (True, True, False),
    (True, True, True),
    (False, True, True),
    (True, False, True),
    (False, False, True),
]

NUMBERS = [
    (0, ZERO), (1, ABOVE), (HIGHEST, ABOVE), (0o777777, ABOVE), (LOWEST, BELOW), (ONES, BELOW),
    (w(0o400000, 1), BELOW), (w(1, 0), ABOVE), (w(0o777777, 0), BELOW),
]

# a, E: what a less E is.
WITH_E = [
    (0, 0, ZERO), (5, 5, ZERO), (4, 5, BELOW), (6, 5, ABOVE),
    (0o777777, LAST_PLACE, ZERO), (0o777776, LAST_PLACE, BELOW), (w(1, 0), LAST_PLACE, ABOVE),
    (0o400000, 0o400000, ZERO), (0, 0o400000, BELOW), (0o377777, 0o400000, BELOW), (0o400001, 0o400000, ABOVE),
    (ONES, LAST_PLACE, BELOW), (ONES, 0, BELOW), (ONES, 1, BELOW), (w(0o777777, 0o400000), 0o400000, BELOW),
    (LOWEST, 0, BELOW), (LOWEST, LAST_PLACE, BELOW), (LOWEST, 1, BELOW),
    (HIGHEST, 0, ABOVE), (HIGHEST, LAST_PLACE, ABOVE),
]

# a, e: what a less e is.
WITH_WORD = [
    (0, 0, ZERO), (5, 5, ZERO), (4, 5, BELOW), (6, 5, ABOVE),
    (ONES, ONES, ZERO), (ONES, 0, BELOW), (0, ONES, ABOVE), (minus(5), minus(6), ABOVE), (minus(6), minus(5), BELOW),
    (LOWEST, LOWEST, ZERO), (HIGHEST, HIGHEST, ZERO), (LOWEST, HIGHEST, BELOW), (HIGHEST, LOWEST, ABOVE),
    (LOWEST, 1, BELOW), (HIGHEST, ONES, ABOVE), (0, LOWEST, ABOVE), (1, LOWEST, ABOVE), (LOWEST, 0, BELOW),
    (ONES, 0o777777, BELOW),
]

# A word, it one more, the flags of that, what it is then.
MORE = [
    (0, 1, 0, ABOVE),
    (5, 6, 0, ABOVE),
    (0o777777, w(1, 0), 0, ABOVE),
    (HIGHEST, LOWEST, C1 | V, BELOW),
    (LOWEST, w(0o400000, 1), 0, BELOW),
    (minus(2), ONES, 0, BELOW),
    (ONES, 0, C0 | C1, ZERO),
]

# A word, it one less, the flags of that, what it is then.
LESS = [
    (0, ONES, 0, BELOW),
    (1, 0, C0 | C1, ZERO),
    (2, 1, C0 | C1, ABOVE),
    (w(1, 0), 0o777777, C0 | C1, ABOVE),
    (LOWEST, HIGHEST, C0 | V, ABOVE),
    (HIGHEST, w(0o377777, 0o777776), C0 | C1, ABOVE),
    (ONES, minus(2), C0 | C1, BELOW),
]


class ConditionTest(MachineTest):
    def over(self, condition, sort):
        return START + 2 if HOLDS[condition][sort] else START + 1

    def on(self, condition, sort, place=THERE):
        return place if HOLDS[condition][sort] else START + 1

    def check_jumps(self, op, rows):
        for condition in range(8):
            for before, after, flag, sort in rows:
                for ac in (0, 3):
                    self.check(ins(op + condition, ac, THERE), {ac: before, THERE: 77}, {ac: after},
                               goes=self.on(condition, sort), flag=flag)

    def check_skips(self, op, rows):
        for condition in range(8):
            for before, after, flag, sort in rows:
                goes = self.over(condition, sort)
                self.check(ins(op + condition, 0, THERE), {0: 77, THERE: before}, {THERE: after}, goes=goes, flag=flag)
                self.check(ins(op + condition, 3, THERE), {3: 77, THERE: before}, {3: after, THERE: after},
                           goes=goes, flag=flag)

    def test_a_less_e_as_a_number(self):
        for condition in range(8):
            for a, place, sort in WITH_E:
                self.check(ins(0o300 + condition, 5, place), {5: a}, goes=self.over(condition, sort))

    def test_a_less_the_word_at_e(self):
        for condition in range(8):
            for a, word, sort in WITH_WORD:
                for ac in (0, 3):
                    self.check(ins(0o310 + condition, ac, THERE), {ac: a, THERE: word}, goes=self.over(condition, sort))

    def test_on_by_a(self):
        self.check_jumps(0o320, [(word, word, 0, sort) for word, sort in NUMBERS])

    def test_over_by_e(self):
        self.check_skips(0o330, [(word, word, 0, sort) for word, sort in NUMBERS])

    def test_on_by_a_one_more(self):
        self.check_jumps(0o340, MORE)

    def test_over_by_e_one_more(self):
        self.check_skips(0o350, MORE)

    def test_on_by_a_one_less(self):
        self.check_jumps(0o360, LESS)

    def test_over_by_e_one_less(self):
        self.check_skips(0o370, LESS)

    def test_e_is_a_itself(self):
        self.check(ins(0o312, 3, 3), {3: LOWEST}, goes=START + 2)
        self.check(ins(0o316, 3, 3), {3: LOWEST})
        self.check(ins(0o324, 3, 3), {3: 5}, goes=3)
        self.check(ins(0o335, 3, 3), {3: 5}, goes=START + 2)
        self.check(ins(0o344, 3, 3), {3: 5}, {3: 6}, goes=3)
        self.check(ins(0o344, 3, 0, 3), {3: THERE}, {3: THERE + 1}, goes=THERE)
        self.check(ins(0o354, 3, 3), {3: 5}, {3: 6}, goes=START + 2)
        self.check(ins(0o350, 0, 0), {0: 5}, {0: 6})
        self.check(ins(0o374, 3, 3), {3: 5}, {3: 4}, goes=START + 2, flag=C0 | C1)
        self.check(ins(0o362, 3, 3), {3: 1}, {3: 0}, goes=3, flag=C0 | C1)

    def test_e_is_another_of_the_registers(self):
        self.check(ins(0o334, 3, 4), {3: 5, 4: 6}, {3: 6}, goes=START + 2)
        self.check(ins(0o350, 3, 4), {3: 5, 4: 6}, {3: 7, 4: 7})

    def test_flags_stay_once_set(self):
        self.check(ins(0o340, 3, THERE), {3: HIGHEST}, {3: LOWEST}, flag=C1 | V, had=C0)
        self.check(ins(0o340, 3, THERE), {3: 5}, {3: 6}, had=V | ND)
        self.check(ins(0o370, 0, THERE), {THERE: LOWEST}, {THERE: HIGHEST}, flag=C0 | V, had=C1)

    def test_pc_goes_round(self):
        self.check(ins(0o304), goes=1, at=LAST_PLACE)
        self.check(ins(0o304), goes=0, at=LAST_PLACE - 1)
        self.check(ins(0o300), goes=0, at=LAST_PLACE)
        self.check(ins(0o334, 0, THERE), goes=1, at=LAST_PLACE)


if __name__ == "__main__":
    unittest.main()
