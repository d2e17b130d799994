"""0500 to 0577."""

import unittest

from helper import THERE, MachineTest, ins, w

S = w(0o123456, 0o654321)
S_TURNED = w(0o654321, 0o123456)
D = w(0o111111, 0o222222)

# By op, in fours: from S to D.
MOVED = [
    w(0o123456, 0o222222),
    w(0o654321, 0o222222),
    w(0o123456, 0),
    w(0o654321, 0),
    w(0o123456, 0o777777),
    w(0o654321, 0o777777),
    w(0o123456, 0),
    w(0o654321, 0o777777),
    w(0o111111, 0o654321),
    w(0o111111, 0o123456),
    w(0, 0o654321),
    w(0, 0o123456),
    w(0o777777, 0o654321),
    w(0o777777, 0o123456),
    w(0o777777, 0o654321),
    w(0, 0o123456),
]

# By op, in fours: from S_TURNED to D.
TURNED_MOVED = [
    w(0o654321, 0o222222),
    w(0o123456, 0o222222),
    w(0o654321, 0),
    w(0o123456, 0),
    w(0o654321, 0o777777),
    w(0o123456, 0o777777),
    w(0o654321, 0o777777),
    w(0o123456, 0),
    w(0o111111, 0o123456),
    w(0o111111, 0o654321),
    w(0, 0o123456),
    w(0, 0o654321),
    w(0o777777, 0o123456),
    w(0o777777, 0o654321),
    w(0, 0o123456),
    w(0o777777, 0o654321),
]

# By op, in fours: from 0,,654321 to D.
MOVED_FROM_E = [
    w(0, 0o222222),
    w(0o654321, 0o222222),
    w(0, 0),
    w(0o654321, 0),
    w(0, 0o777777),
    w(0o654321, 0o777777),
    w(0, 0),
    w(0o654321, 0o777777),
    w(0o111111, 0o654321),
    w(0o111111, 0),
    w(0, 0o654321),
    w(0, 0),
    w(0o777777, 0o654321),
    w(0o777777, 0),
    w(0o777777, 0o654321),
    w(0, 0),
]

# By op, in fours: from 0,,123456 to D.
MOVED_FROM_LOW_E = [
    w(0, 0o222222),
    w(0o123456, 0o222222),
    w(0, 0),
    w(0o123456, 0),
    w(0, 0o777777),
    w(0o123456, 0o777777),
    w(0, 0),
    w(0o123456, 0),
    w(0o111111, 0o123456),
    w(0o111111, 0),
    w(0, 0o123456),
    w(0, 0),
    w(0o777777, 0o123456),
    w(0o777777, 0),
    w(0, 0o123456),
    w(0, 0),
]

# By op, in fours: from S to S.
MOVED_WITHIN = [
    w(0o123456, 0o654321),
    w(0o654321, 0o654321),
    *MOVED[2:8],
    w(0o123456, 0o654321),
    w(0o123456, 0o123456),
    *MOVED[10:],
]

# By op, in fours: from S_TURNED to itself.
TURNED_MOVED_WITHIN = [
    w(0o654321, 0o123456),
    w(0o123456, 0o123456),
    *TURNED_MOVED[2:8],
    w(0o654321, 0o123456),
    w(0o654321, 0o654321),
    *TURNED_MOVED[10:],
]


class HalvesTest(MachineTest):
    def test_from_e_to_a(self):
        for source, rows in ((S, MOVED), (S_TURNED, TURNED_MOVED)):
            for kind, word in enumerate(rows):
                for ac in (0, 3):
                    self.check(ins(0o500 + 4 * kind, ac, THERE), {ac: D, THERE: source}, {ac: word})

    def test_from_0_e_to_a(self):
        for place, rows in ((0o654321, MOVED_FROM_E), (0o123456, MOVED_FROM_LOW_E)):
            for kind, word in enumerate(rows):
                for ac in (0, 3):
                    self.check(ins(0o501 + 4 * kind, ac, place), {ac: D, place: 77}, {ac: word})

    def test_from_a_to_e(self):
        for source, rows in ((S, MOVED), (S_TURNED, TURNED_MOVED)):
            for kind, word in enumerate(rows):
                for ac in (0, 3):
                    self.check(ins(0o502 + 4 * kind, ac, THERE), {ac: source, THERE: D}, {THERE: word})

    def test_from_e_to_e_and_to_a_if_a_is_not_0(self):
        for source, rows in ((S, MOVED_WITHIN), (S_TURNED, TURNED_MOVED_WITHIN)):
            for kind, word in enumerate(rows):
                self.check(ins(0o503 + 4 * kind, 3, THERE), {3: D, THERE: source}, {3: word, THERE: word})
                self.check(ins(0o503 + 4 * kind, 0, THERE), {0: D, THERE: source}, {THERE: word})

    def test_as_the_moved_halfs_highest_bit(self):
        for half, other in ((0, 0), (1, 0), (0o377777, 0), (0o377776, 0), (0o200000, 0),
                            (0o400000, 0o777777), (0o400001, 0o777777), (0o777777, 0o777777)):
            turned = half ^ 0o777777
            self.check(ins(0o530, 3, THERE), {3: D, THERE: w(half, turned)}, {3: w(half, other)})
            self.check(ins(0o534, 3, THERE), {3: D, THERE: w(turned, half)}, {3: w(half, other)})
            self.check(ins(0o570, 3, THERE), {3: D, THERE: w(turned, half)}, {3: w(other, half)})
            self.check(ins(0o574, 3, THERE), {3: D, THERE: w(half, turned)}, {3: w(other, half)})
            self.check(ins(0o535, 3, half), {3: D}, {3: w(half, other)})
            self.check(ins(0o571, 3, half), {3: D}, {3: w(other, half)})

    def test_e_is_a_itself(self):
        for source, rows in ((S, MOVED_WITHIN), (S_TURNED, TURNED_MOVED_WITHIN)):
            for kind, word in enumerate(rows):
                for way in (0, 2, 3):
                    self.check(ins(0o500 + 4 * kind + way, 3, 3), {3: source}, {3: word})

    def test_e_is_the_one_after_a(self):
        for kind, word in enumerate(MOVED):
            self.check(ins(0o500 + 4 * kind, 3, 4), {3: D, 4: S}, {3: word})
            self.check(ins(0o502 + 4 * kind, 15, 0), {15: S, 0: D}, {0: word})


if __name__ == "__main__":
    unittest.main()
