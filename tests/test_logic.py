"""0400 to 0477 and 0600 to 0677."""

import unittest

from helper import LAST_PLACE, ONES, START, THERE, MachineTest, ins, w

A = w(0o777777, 0)
M = w(0o777000, 0o777000)

# By op, in fours: of A and M.
JOINED = [
    0,
    w(0o777000, 0),
    w(0, 0o777000),
    w(0o777000, 0o777000),
    w(0o000777, 0),
    w(0o777777, 0),
    w(0o000777, 0o777000),
    w(0o777777, 0o777000),
    w(0, 0o000777),
    w(0o777000, 0o000777),
    w(0, 0o777777),
    w(0o777000, 0o777777),
    w(0o000777, 0o000777),
    w(0o777777, 0o000777),
    w(0o000777, 0o777777),
    w(0o777777, 0o777777),
]

A_BESIDE_E = w(0o777000, 0o777000)
PLACE = 0o770770

# By op, in fours: of A_BESIDE_E and 0,,PLACE.
JOINED_WITH_E = [
    0,
    w(0, 0o770000),
    w(0, 0o000770),
    w(0, 0o770770),
    w(0o777000, 0o007000),
    w(0o777000, 0o777000),
    w(0o777000, 0o007770),
    w(0o777000, 0o777770),
    w(0o000777, 0o000007),
    w(0o000777, 0o770007),
    w(0o000777, 0o000777),
    w(0o000777, 0o770777),
    w(0o777777, 0o007007),
    w(0o777777, 0o777007),
    w(0o777777, 0o007777),
    w(0o777777, 0o777777),
]

# By op, in fours: of a word and itself.
JOINED_WITH_ITSELF = [
    0, A, 0, A, 0, A, 0, A, w(0, 0o777777), ONES, w(0, 0o777777), ONES, w(0, 0o777777), ONES, w(0, 0o777777), ONES]


class JoinedTest(MachineTest):
    def test_with_e(self):
        for kind, word in enumerate(JOINED):
            op = 0o400 + 4 * kind
            for ac in (0, 3):
                words = {ac: A, THERE: M}
                self.check(ins(op, ac, THERE), words, {ac: word})
                self.check(ins(op + 2, ac, THERE), words, {THERE: word})
                self.check(ins(op + 3, ac, THERE), words, {ac: word, THERE: word})

    def test_with_0_e(self):
        for kind, word in enumerate(JOINED_WITH_E):
            for ac in (0, 3):
                self.check(ins(0o401 + 4 * kind, ac, PLACE), {ac: A_BESIDE_E, PLACE: 77}, {ac: word})

    def test_e_is_a_itself(self):
        for kind, word in enumerate(JOINED_WITH_ITSELF):
            for way in (0, 2, 3):
                self.check(ins(0o400 + 4 * kind + way, 3, 3), {3: A}, {3: word})

    def test_e_is_the_one_after_a(self):
        for kind, word in enumerate(JOINED):
            op = 0o400 + 4 * kind
            self.check(ins(op, 3, 4), {3: A, 4: M}, {3: word})
            self.check(ins(op + 2, 3, 4), {3: A, 4: M}, {4: word})
            self.check(ins(op + 3, 15, 0), {15: A, 0: M}, {15: word, 0: word})


# The mask, all but it, a word with some of its bits, and that one without them, with them turned, with all of them.
RIGHT = (0o000770, w(0o777777, 0o777007), w(0o123456, 0o007070),
         w(0o123456, 0o007000), w(0o123456, 0o007700), w(0o123456, 0o007770))
LEFT = (w(0o000770, 0), w(0o777007, 0o777777), w(0o007070, 0o123456),
        w(0o007000, 0o123456), w(0o007700, 0o123456), w(0o007770, 0o123456))
WHOLE = (w(0o000770, 0o700000), w(0o777007, 0o077777), w(0o007070, 0o023456),
         w(0o007000, 0o023456), w(0o007700, 0o723456), w(0o007770, 0o723456))
CHANGED = (w(0o700000, 0o000770), w(0o077777, 0o777007), w(0o023456, 0o007070),
           w(0o023456, 0o007000), w(0o723456, 0o007700), w(0o723456, 0o007770))

# What is added to op: E, e, the mask's words.
MASKS = [
    (0, 0o000770, 77, RIGHT),
    (1, 0o000770, 77, LEFT),
    (8, THERE, w(0o000770, 0o700000), WHOLE),
    (9, THERE, w(0o000770, 0o700000), CHANGED),
]

# What is added to op: passed over if a has none of the bits, if it has one.
PASSED = [(0, False, False), (2, True, False), (4, True, True), (6, False, True)]


class MaskTest(MachineTest):
    def check_change(self, op, change):
        """change: by the mask's words and a (none of its bits, some, all): what register A is then."""
        for add, place, word, row in MASKS:
            for passed, if_none, if_one in PASSED:
                for a, held in ((row[1], if_none), (row[2], if_one), (ONES, if_one)):
                    for ac in (0, 3):
                        self.check(ins(op + add + passed, ac, place), {ac: a, place: word}, {ac: change(row)[a]},
                                   goes=START + 2 if held else START + 1)

    def test_a_stays(self):
        self.check_change(0o600, lambda row: {row[1]: row[1], row[2]: row[2], ONES: ONES})

    def test_a_loses_the_bits(self):
        self.check_change(0o620, lambda row: {row[1]: row[1], row[2]: row[3], ONES: row[1]})

    def test_a_has_them_turned(self):
        self.check_change(0o640, lambda row: {row[1]: ONES, row[2]: row[4], ONES: row[1]})

    def test_a_gets_them(self):
        self.check_change(0o660, lambda row: {row[1]: ONES, row[2]: row[5], ONES: ONES})

    def test_no_mask(self):
        for op in (0o600, 0o620, 0o640, 0o660):
            for add in (0, 1):
                for passed, if_none, if_one in PASSED:
                    self.check(ins(op + add + passed, 3, 0), {0: 77, 3: ONES}, {},
                               goes=START + 2 if if_none else START + 1)

    def test_a_0(self):
        self.check(ins(0o602, 3, 5), goes=START + 2)
        self.check(ins(0o666, 3, 5), {}, {3: 5})
        self.check(ins(0o663, 3, LAST_PLACE), {}, {3: w(0o777777, 0)}, goes=START + 2)

    def test_e_is_a_itself(self):
        self.check(ins(0o636, 3, 3), {3: 5}, {3: 0}, goes=START + 2)
        self.check(ins(0o651, 3, 3), {3: w(5, 3)}, {3: w(6, 6)})
        self.check(ins(0o671, 3, 3), {3: w(5, 3)}, {3: w(7, 7)})
        self.check(ins(0o611, 3, 3), {3: w(5, 3)}, {})

    def test_passed_over_from_the_last_place(self):
        self.check(ins(0o604), goes=1, at=LAST_PLACE)


if __name__ == "__main__":
    unittest.main()
