"""The place that an instruction tells."""

import unittest

from helper import LAST_PLACE, ONES, START, THERE, MachineTest, ins, leading, rows_of_words, w

WORD = w(0o123456, 0o701234)

# Of each kind: an op that the document names, with an A that it allows, and ops that it doesn't name.
OPS = [
    (0o133, 0), (0o134, 3), (0o135, 3), (0o136, 3), (0o137, 3), (0o200, 3), (0o213, 3), (0o224, 3), (0o235, 3),
    (0o240, 3), (0o243, 3), (0o246, 3), (0o250, 3), (0o251, 3), (0o252, 3), (0o253, 3), (0o254, 0), (0o255, 15),
    (0o256, 0), (0o260, 3), (0o261, 3), (0o262, 3), (0o263, 3), (0o264, 3), (0o265, 3), (0o266, 3), (0o267, 3),
    (0o270, 3), (0o300, 3), (0o310, 3), (0o320, 3), (0o334, 3), (0o344, 3), (0o350, 3), (0o364, 3), (0o370, 3),
    (0o400, 3), (0o474, 3), (0o502, 3), (0o577, 3), (0o600, 3), (0o677, 3),
    (0o254, 4), (0o254, 5), (0o133, 1), (0, 0), (0o1, 3), (0o132, 3), (0o247, 3), (0o257, 3), (0o700, 3), (0o777, 15),
]


class PlaceTest(MachineTest):
    def check_place(self, place, y, x=0, i=0, words=None):
        """By the word 0,,E, by what is kept at E, and by where it goes on."""
        words = words or {}
        self.check(ins(0o201, 14, y, x, i), words, {14: place})
        self.check(ins(0o202, 14, y, x, i), {**words, 14: WORD}, {place: WORD})
        self.check(ins(0o254, 0, y, x, i), words, goes=place)

    def test_y_alone(self):
        for y in (0, 1, 15, 16, THERE, 0o377777, 0o400000, LAST_PLACE):
            self.check_place(y, y, words={0: 5})

    def test_x_0_is_no_register(self):
        self.check(ins(0o201, 14, THERE, 0), {0: 5}, {14: THERE})

    def test_each_x(self):
        for x in range(1, 14):
            self.check_place(THERE + 5, THERE, x, words={x: 5})

    def test_the_right_half_alone(self):
        self.check_place(THERE + 5, THERE, 3, words={3: w(0o777777, 5)})
        self.check_place(THERE, THERE, 3, words={3: w(0o777777, 0)})
        self.check_place(THERE, THERE, 3, words={3: w(1, 0)})

    def test_modulo_2_to_the_18(self):
        self.check_place(THERE - 1, THERE, 3, words={3: ONES})
        self.check_place(0, 1, 3, words={3: 0o777777})
        self.check_place(0o777776, LAST_PLACE, 3, words={3: LAST_PLACE})
        self.check_place(0, 0o400000, 3, words={3: 0o400000})

    def test_x_is_a(self):
        self.check(ins(0o201, 3, 5, 3), {3: w(7, 6)}, {3: 0o13})
        self.check(ins(0o202, 3, 5, 3), {3: w(7, THERE)}, {THERE + 5: w(7, THERE)})

    def test_i_with_one_word(self):
        self.check_place(0o3000, THERE, 0, 1, {THERE: 0o3000})
        self.check_place(0o3000, THERE, 0, 1, {THERE: ins(0o777, 15, 0o3000)})
        self.check_place(0o3000, LAST_PLACE, 0, 1, {LAST_PLACE: 0o3000})
        self.check_place(0o3000, 5, 0, 1, {5: 0o3000})

    def test_x_before_i(self):
        self.check_place(0o3000, THERE, 3, 1, {3: 5, THERE: 0o100, THERE + 5: 0o3000})
        self.check_place(0o3000, THERE, 3, 1, {3: ONES, THERE: 0o100, THERE - 1: 0o3000})

    def test_the_words_own_x(self):
        self.check_place(0o3007, THERE, 0, 1, {4: 7, THERE: ins(0, 0, 0o3000, 4)})
        self.check_place(0o3007, THERE, 3, 1, {3: 5, 4: w(9, 7), THERE + 5: ins(0o123, 0, 0o3000, 4)})
        self.check_place(2, THERE, 0, 1, {4: 3, THERE: ins(0, 0, LAST_PLACE, 4)})

    def test_i_with_several_words(self):
        self.check_place(0o3003, THERE, 1, 1, {
            1: 1, 2: 2, 3: 3, THERE + 1: leading(0o2100, 2), 0o2102: leading(0o2200),
            0o2200: ins(0o777, 15, 0o3000, 3)})
        self.check_place(0o3000, THERE, 0, 1, {THERE: leading(0o2100), 0o2100: leading(7), 7: 0o3000})

    def test_999_words_with_i(self):
        prepare = rows_of_words(0o4000, 998, leading(0o4001))
        last = 0o4000 + 998
        self.check(ins(0o201, 3, 0o4000, 0, 1), {last: 0o3000}, {3: 0o3000}, prepare=prepare)
        self.check(ins(0o200, 3, 0o4000, 0, 1), {last: 0o3000, 0o3000: WORD}, {3: WORD}, prepare=prepare)

    def test_a_thousand_words_with_i(self):
        prepare = rows_of_words(0o4000, 999, leading(0o4001))
        last = 0o4000 + 999
        self.check_stopped(ins(0o201, 3, 0o4000, 0, 1), {last: 0o3000}, why=2, prepare=prepare)
        self.check(ins(0o201, 3, 0o4001, 0, 1), {last: 0o3000}, {3: 0o3000}, prepare=prepare)

    def test_each_instruction_counts_its_own_words(self):
        # Of the word that 0256 does the count begins anew.
        prepare = rows_of_words(0o4000, 998, leading(0o4001))
        last = 0o4000 + 998
        self.check(ins(0o256, 0, 0o4000, 0, 1), {last: 0o3000, 0o3000: ins(0o201, 3, 0o4000, 0, 1)}, {3: 0o3000},
                   prepare=prepare)

    def test_a_word_that_leads_to_itself(self):
        self.check_stopped(ins(0o201, 3, THERE, 0, 1), {THERE: leading(THERE)}, why=2)
        self.check_stopped(ins(0o201, 3, START, 0, 1), why=2)
        self.check_stopped(ins(0o201, 3, THERE, 0, 1), {THERE: leading(0o3000), 0o3000: leading(THERE)}, why=2)
        self.check_stopped(ins(0o201, 3, 3, 6, 1), {6: w(0o26, 3)}, why=2)

    def test_the_place_is_told_before_what_op_asks(self):
        for op, ac in OPS:
            self.check_stopped(ins(op, ac, THERE, 0, 1), {3: w(5, 0o3000), THERE: leading(THERE), 0o3000: WORD}, why=2)

    def test_the_same_for_every_op(self):
        for op in range(0o1000):
            heads, words = self.outcome(ins(op, op % 16, START, 0, 1), {}, [START], 1, START, 5, ())
            self.assertEqual(heads, [0, 2, START, 5], oct(op))


if __name__ == "__main__":
    unittest.main()
