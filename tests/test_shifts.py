"""0240 to 0247 without 0243."""

import unittest

from helper import C0, HIGHEST, LOWEST, ND, ONES, START, V, MachineTest, ins, minus, w

BIG = 0o200000000000
WORD = w(0o123456, 0o701234)
SECOND = w(0o567012, 0o345671)

# a, n, a moved as a number, V or 0.
MOVED_NUMBERS = [
    (5, 0, 5, 0),
    (5, 1, 0o12, 0),
    (5, -1, 2, 0),
    (minus(5), 0, minus(5), 0),
    (minus(5), 1, minus(10), 0),
    (minus(5), -1, minus(3), 0),
    (0, 255, 0, 0),
    (0, -256, 0, 0),
    (1, 34, BIG, 0),
    (1, 35, 0, V),
    (1, 36, 0, V),
    (1, 71, 0, V),
    (1, 72, 0, V),
    (1, 255, 0, V),
    (1, -1, 0, 0),
    (1, -256, 0, 0),
    (ONES, 34, minus(BIG), 0),
    (ONES, 35, LOWEST, 0),
    (ONES, 36, LOWEST, V),
    (ONES, 71, LOWEST, V),
    (ONES, 72, LOWEST, V),
    (ONES, 255, LOWEST, V),
    (ONES, -1, ONES, 0),
    (ONES, -256, ONES, 0),
    (HIGHEST, 0, HIGHEST, 0),
    (HIGHEST, 1, w(0o377777, 0o777776), V),
    (HIGHEST, -34, 1, 0),
    (HIGHEST, -35, 0, 0),
    (HIGHEST, -36, 0, 0),
    (LOWEST, 0, LOWEST, 0),
    (LOWEST, 1, LOWEST, V),
    (LOWEST, -1, w(0o600000, 0), 0),
    (LOWEST, -34, minus(2), 0),
    (LOWEST, -35, ONES, 0),
    (LOWEST, -36, ONES, 0),
    (LOWEST, -71, ONES, 0),
    (LOWEST, -72, ONES, 0),
    (LOWEST, -256, ONES, 0),
    (w(0o177777, 0o777777), 1, w(0o377777, 0o777776), 0),
    (BIG, 1, 0, V),
    (w(0o300000, 1), 1, w(0o200000, 2), V),
    (w(0o600000, 0), 1, LOWEST, 0),
    (w(0o577777, 0o777777), 1, w(0o777777, 0o777776), V),
    (w(0o477777, 0o777777), 2, w(0o777777, 0o777774), V),
]

# a, n, a turned.
TURNED = [
    (w(0o400000, 1), 0, w(0o400000, 1)),
    (w(0o400000, 1), 1, 3),
    (w(0o400000, 1), -1, w(0o600000, 0)),
    (w(0o400000, 1), 35, w(0o600000, 0)),
    (w(0o400000, 1), 36, w(0o400000, 1)),
    (w(0o400000, 1), 71, w(0o600000, 0)),
    (w(0o400000, 1), 72, w(0o400000, 1)),
    (w(0o400000, 1), 255, 0o14),
    (w(0o400000, 1), -35, 3),
    (w(0o400000, 1), -36, w(0o400000, 1)),
    (w(0o400000, 1), -71, 3),
    (w(0o400000, 1), -72, w(0o400000, 1)),
    (w(0o400000, 1), -256, w(0o060000, 0)),
    (WORD, 3, w(0o234567, 0o012341)),
    (WORD, -3, w(0o412345, 0o670123)),
    (WORD, 18, w(0o701234, 0o123456)),
    (WORD, -18, w(0o701234, 0o123456)),
    (ONES, 17, ONES),
    (0, 17, 0),
]

# a, n, a moved.
MOVED = [
    (WORD, 0, WORD),
    (WORD, 3, w(0o234567, 0o012340)),
    (WORD, -3, w(0o012345, 0o670123)),
    (WORD, 18, w(0o701234, 0)),
    (WORD, -18, 0o123456),
    (ONES, 1, minus(2)),
    (ONES, -1, HIGHEST),
    (ONES, 35, LOWEST),
    (ONES, 36, 0),
    (ONES, 71, 0),
    (ONES, 72, 0),
    (ONES, 255, 0),
    (ONES, -35, 1),
    (ONES, -36, 0),
    (ONES, -71, 0),
    (ONES, -72, 0),
    (ONES, -256, 0),
]

# a, b, n, both moved as a number, V or 0.
MOVED_NUMBERS_OF_TWO = [
    (0, 5, 0, 0, 5, 0),
    (0, w(0o400000, 5), 0, 0, 5, 0),
    (ONES, 5, 0, ONES, w(0o400000, 5), 0),
    (ONES, w(0o400000, 5), 0, ONES, w(0o400000, 5), 0),
    (0, BIG, 1, 1, 0, 0),
    (0, w(0o600000, 0), 1, 1, 0, 0),
    (1, 0, -1, 0, BIG, 0),
    (1, LOWEST, -1, 0, BIG, 0),
    (0, 5, 35, 5, 0, 0),
    (5, 0, -35, 0, 5, 0),
    (minus(5), 0, -35, ONES, minus(5), 0),
    (minus(5), 0, -36, ONES, minus(3), 0),
    (0, 1, 36, 2, 0, 0),
    (0, 1, 69, BIG, 0, 0),
    (0, 1, 70, 0, 0, V),
    (0, 1, 71, 0, 0, V),
    (0, 1, 72, 0, 0, V),
    (0, 1, 255, 0, 0, V),
    (0, 0, 255, 0, 0, 0),
    (0, LOWEST, 255, 0, 0, 0),
    (ONES, HIGHEST, 1, ONES, minus(2), 0),
    (ONES, HIGHEST, 69, w(0o600000, 0), LOWEST, 0),
    (ONES, HIGHEST, 70, LOWEST, LOWEST, 0),
    (ONES, ONES, 70, LOWEST, LOWEST, 0),
    (ONES, HIGHEST, 71, LOWEST, LOWEST, V),
    (ONES, HIGHEST, 72, LOWEST, LOWEST, V),
    (ONES, HIGHEST, 255, LOWEST, LOWEST, V),
    (ONES, HIGHEST, -1, ONES, ONES, 0),
    (LOWEST, 0, -1, w(0o600000, 0), LOWEST, 0),
    (LOWEST, 0, -70, ONES, ONES, 0),
    (LOWEST, 0, -69, ONES, minus(2), 0),
    (LOWEST, 0, -71, ONES, ONES, 0),
    (LOWEST, 0, -72, ONES, ONES, 0),
    (LOWEST, 0, -256, ONES, ONES, 0),
    (LOWEST, 0, 1, LOWEST, LOWEST, V),
    (HIGHEST, ONES, -69, 0, 1, 0),
    (HIGHEST, ONES, -70, 0, 0, 0),
    (HIGHEST, ONES, -256, 0, 0, 0),
    (HIGHEST, HIGHEST, 1, HIGHEST, w(0o377777, 0o777776), V),
    (w(0o177777, 0o777777), HIGHEST, 1, HIGHEST, w(0o377777, 0o777776), 0),
    (BIG, 3, 1, 0, 6, V),
    (w(0o577777, 0o777777), HIGHEST, 1, w(0o777777, 0o777777), w(0o777777, 0o777776), V),
    (w(0o600000, 0), 0, 1, LOWEST, LOWEST, 0),
]

# a, b, n, both turned as 72 bits.
TURNED_TWO = [
    (LOWEST, 1, 0, LOWEST, 1),
    (LOWEST, 1, 1, 0, 3),
    (LOWEST, 1, -1, w(0o600000, 0), 0),
    (LOWEST, 1, 35, 0, w(0o600000, 0)),
    (LOWEST, 1, 36, 1, LOWEST),
    (LOWEST, 1, 71, w(0o600000, 0), 0),
    (LOWEST, 1, 72, LOWEST, 1),
    (LOWEST, 1, 255, 0o14, 0),
    (LOWEST, 1, -36, 1, LOWEST),
    (LOWEST, 1, -71, 0, 3),
    (LOWEST, 1, -72, LOWEST, 1),
    (LOWEST, 1, -256, 0, w(0o060000, 0)),
    (WORD, SECOND, 3, w(0o234567, 0o012345), w(0o670123, 0o456711)),
    (WORD, SECOND, -3, w(0o112345, 0o670123), w(0o456701, 0o234567)),
]

# a, b, n, both moved as 72 bits.
MOVED_TWO = [
    (WORD, SECOND, 0, WORD, SECOND),
    (WORD, SECOND, 3, w(0o234567, 0o012345), w(0o670123, 0o456710)),
    (WORD, SECOND, -3, w(0o012345, 0o670123), w(0o456701, 0o234567)),
    (WORD, SECOND, 36, SECOND, 0),
    (WORD, SECOND, -36, 0, WORD),
    (ONES, ONES, 1, ONES, minus(2)),
    (ONES, ONES, -1, HIGHEST, ONES),
    (ONES, ONES, 35, ONES, LOWEST),
    (ONES, ONES, -35, 1, ONES),
    (ONES, ONES, 71, LOWEST, 0),
    (ONES, ONES, 72, 0, 0),
    (ONES, ONES, 255, 0, 0),
    (ONES, ONES, -71, 0, 1),
    (ONES, ONES, -72, 0, 0),
    (ONES, ONES, -256, 0, 0),
]


def places_of(n):
    """Places that tell the count n: what stands between the lowest eight bits and the highest doesn't count."""
    if n < 0:
        return 0o400000 + 256 + n, 0o777400 + 256 + n, 0o525000 + 256 + n
    return n, 0o377400 + n, 0o125000 + n


class ShiftTest(MachineTest):
    def check_one(self, op, a, n, word, flag=0):
        for ac, place in zip((3, 0, 15), places_of(n)):
            self.check(ins(op, ac, place), {ac: a}, {ac: word}, flag=flag)

    def check_two(self, op, a, b, n, first, second, flag=0):
        for ac, after, place in zip((3, 15, 0), (4, 0, 1), places_of(n)):
            self.check(ins(op, ac, place), {ac: a, after: b}, {ac: first, after: second}, flag=flag)

    def test_a_moved_as_a_number(self):
        for row in MOVED_NUMBERS:
            self.check_one(0o240, *row)

    def test_a_turned(self):
        for row in TURNED:
            self.check_one(0o241, *row)

    def test_a_moved(self):
        for row in MOVED:
            self.check_one(0o242, *row)

    def test_two_moved_as_a_number(self):
        for row in MOVED_NUMBERS_OF_TWO:
            self.check_two(0o244, *row)

    def test_two_turned(self):
        for row in TURNED_TWO:
            self.check_two(0o245, *row)

    def test_two_moved(self):
        for row in MOVED_TWO:
            self.check_two(0o246, *row)

    def test_the_one_after_a_stays_where_one_word_is_moved(self):
        for op in (0o240, 0o241, 0o242):
            self.check(ins(op, 3, 1), {3: 2, 4: 77}, {3: 4})

    def test_the_count_by_a_place_that_leads_on(self):
        self.check(ins(0o242, 3, 1, 5), {3: 1, 5: w(0o777777, 2)}, {3: 0o10})
        self.check(ins(0o242, 3, 0o100, 0, 1), {3: 1, 0o100: w(0, 4)}, {3: 0o20})
        self.check(ins(0o242, 3, 0, 3), {3: 3}, {3: 0o30})

    def test_flags_stay_once_set(self):
        self.check(ins(0o240, 3, 1), {3: 1}, {3: 2}, had=V)
        self.check(ins(0o240, 3, 1), {3: LOWEST}, {}, flag=V, had=C0 | ND)
        self.check(ins(0o244, 3, 70), {4: 1}, {4: 0}, flag=V, had=C0)

    def test_not_named(self):
        for ac in range(16):
            self.check_stopped(ins(0o247, ac, 1), {ac: 5})
        self.check_stopped(ins(0o247, 3, START), {3: 5, 4: 6})


if __name__ == "__main__":
    unittest.main()
