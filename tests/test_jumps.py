"""0243, 0252 to 0257 and 0260 to 0267."""

import unittest

from helper import (
    C0, C1, HIGHEST, LAST_PLACE, LOWEST, ND, ONES, START, THERE, V, MachineTest, ins, minus, rows_of_words, w)

NEXT = START + 1
WORD = w(0o123456, 0o701234)

# The left half of the state word, by the flags.
FLAG_HALVES = {
    0: 0, ND: 0o40, C1: 0o100000, C1 | ND: 0o100040, C0: 0o200000, C0 | ND: 0o200040, C0 | C1: 0o300000,
    C0 | C1 | ND: 0o300040, V: 0o400000, V | ND: 0o400040, V | C1: 0o500000, V | C1 | ND: 0o500040,
    V | C0: 0o600000, V | C0 | ND: 0o600040, V | C0 | C1: 0o700000, 15: 0o700040,
}


class ZerosTest(MachineTest):
    def test_a_0(self):
        self.check(ins(0o243, 3, THERE), {3: 0, 4: 77}, {4: 0})
        self.check(ins(0o243, 15, THERE), {15: 0, 0: 77}, {0: 0})

    def test_a_not_0(self):
        for a, zeros in ((1, 35), (2, 34), (3, 34), (0o777777, 18), (w(1, 0), 17), (HIGHEST, 1), (WORD, 2),
                         (0o200000000000, 1), (LOWEST, 0), (ONES, 0)):
            self.check(ins(0o243, 3, THERE), {3: a, 4: 77}, {4: zeros}, goes=THERE)
            self.check(ins(0o243, 15, LAST_PLACE), {15: a, 0: 77}, {0: zeros}, goes=LAST_PLACE)


class HalvesMoreTest(MachineTest):
    def test_not_below_0_then(self):
        for a, word in ((0, w(1, 1)), (ONES, 0), (w(0o777777, 0), 1), (w(0, 0o777777), w(1, 0)),
                        (w(0o377776, 0o777777), w(0o377777, 0)), (w(0o777777, 5), 6)):
            self.check(ins(0o252, 3, THERE), {3: a}, {3: word}, goes=THERE)
            self.check(ins(0o253, 3, THERE), {3: a}, {3: word})

    def test_below_0_then(self):
        for a, word in ((w(0o377777, 5), w(0o400000, 6)), (w(0o777776, 0o777777), w(0o777777, 0)),
                        (w(0o777775, 0o1000), w(0o777776, 0o1001)), (LOWEST, w(0o400001, 1))):
            self.check(ins(0o252, 3, THERE), {3: a}, {3: word})
            self.check(ins(0o253, 3, THERE), {3: a}, {3: word}, goes=THERE)

    def test_e_by_a_as_it_was(self):
        self.check(ins(0o252, 3, 0, 3), {3: w(0, THERE)}, {3: w(1, THERE + 1)}, goes=THERE)


class GoOnTest(MachineTest):
    def test_a_0(self):
        for place in (THERE, 0, START, LAST_PLACE):
            self.check(ins(0o254, 0, place), {5: 6}, goes=place)

    def test_a_4(self):
        self.check_stopped(ins(0o254, 4, THERE), {4: 5}, why=3)
        self.check_stopped(ins(0o254, 4, THERE), {4: 5}, why=3, at=LAST_PLACE)

    def test_each_other_a(self):
        for ac in (1, 2, 3, 5, 6, 7, 8, 9, 10, 11, 12, 13, 14, 15):
            self.check_stopped(ins(0o254, ac, THERE), {ac: 5}, why=1)


class FlagsTest(MachineTest):
    def check_flags(self, ac, had, then, goes):
        heads, words = self.outcome(ins(0o255, ac, THERE), {ac: 5}, [ac], 1, START, had, ())
        self.assertEqual((heads, words), ([1, 0, goes, then], {ac: 5}))

    def test_each_bit_with_its_flag(self):
        for bit in (V, C0, C1):
            self.check_flags(bit, bit, 0, THERE)
            self.check_flags(bit, 15, 15 - bit, THERE)
            self.check_flags(bit, bit + ND, ND, THERE)

    def test_each_bit_without_its_flag(self):
        for bit in (V, C0, C1):
            self.check_flags(bit, 0, 0, NEXT)
            self.check_flags(bit, 15 - bit, 15 - bit, NEXT)

    def test_nd_is_not_touched(self):
        for had in range(16):
            self.check_flags(1, had, had, NEXT)
            self.check_flags(0, had, had, NEXT)
        self.check_flags(15, ND, ND, NEXT)
        self.check_flags(15, 15, ND, THERE)

    def test_several_bits(self):
        self.check_flags(V | C0, V, 0, THERE)
        self.check_flags(V | C0, C0 | C1, C1, THERE)
        self.check_flags(V | C0, C1 | ND, C1 | ND, NEXT)
        self.check_flags(C0 | C1, V | C0 | C1, V, THERE)
        self.check_flags(15, C1, 0, THERE)

    def test_all(self):
        for ac in range(16):
            for had in range(16):
                common = [bit for bit in (V, C0, C1) if ac & bit and had & bit]
                self.check_flags(ac, had, had - sum(common), THERE if common else NEXT)


class DoneWordTest(MachineTest):
    def test_it_is_done(self):
        for ac in (0, 3, 15):
            self.check(ins(0o256, ac, THERE), {THERE: ins(0o271, 5, 7), 5: 3}, {5: 0o12})

    def test_pc_as_it_is(self):
        self.check(ins(0o256, 0, THERE), {THERE: ins(0o304)}, goes=START + 2)
        self.check(ins(0o256, 0, THERE), {THERE: ins(0o300)}, goes=NEXT)
        self.check(ins(0o256, 0, THERE), {THERE: ins(0o254, 0, 0o3000)}, goes=0o3000)
        self.check(ins(0o256, 0, THERE), {THERE: ins(0o265, 3, 0o3000)}, {3: NEXT}, goes=0o3000, had=0)
        self.check(ins(0o256, 0, THERE), {THERE: ins(0o266, 3, 0o3000), 3: 5}, {3: w(0o3000, NEXT), 0o3000: 5},
                   goes=0o3001)
        self.check(ins(0o256, 0, THERE), {THERE: ins(0o265, 3, 0o3000)}, {3: 0}, goes=0o3000, had=0, at=LAST_PLACE)

    def test_one_in_another(self):
        self.check(ins(0o256, 0, THERE), {THERE: ins(0o256, 0, 0o3000), 0o3000: ins(0o201, 3, 5)}, {3: 5})

    def test_its_own_place(self):
        self.check(ins(0o256, 0, 1, 5), {5: THERE, THERE + 1: ins(0o201, 3, 5)}, {3: 5})
        self.check(ins(0o256, 0, THERE), {5: 6, THERE: ins(0o201, 3, 5, 5)}, {3: 0o13})
        self.check(ins(0o256, 0, THERE, 0, 1), {THERE: 0o3000, 0o3000: ins(0o201, 3, 5)}, {3: 5})

    def test_a_word_of_the_registers(self):
        self.check(ins(0o256, 0, 7), {7: ins(0o201, 7, 5)}, {7: 5})

    def test_999_of_them(self):
        prepare = [*rows_of_words(0o4000, 998, ins(0o256, 0, 0o4001))]
        last = 0o4000 + 998
        self.check(ins(0o256, 0, 0o4000), {last: ins(0o201, 3, 5)}, {3: 5}, prepare=prepare)
        self.check_stopped(ins(0o256, 0, 0o4000), {last: ins(0o254, 4)}, why=3, prepare=prepare)
        self.check_stopped(ins(0o256, 0, 0o4000), {last: ins(0o257)}, why=1, prepare=prepare)

    def test_a_thousand_of_them(self):
        prepare = [*rows_of_words(0o4000, 999, ins(0o256, 0, 0o4001))]
        last = 0o4000 + 999
        self.check_stopped(ins(0o256, 0, 0o4000), {last: ins(0o201, 3, 5)}, why=2, prepare=prepare)
        self.check_stopped(ins(0o256, 0, 0o4000), {last: ins(0o257)}, why=2, prepare=prepare)
        # One less from the second of them on.
        self.check(ins(0o256, 0, 0o4001), {last: ins(0o201, 3, 5)}, {3: 5}, prepare=prepare)

    def test_itself(self):
        self.check_stopped(ins(0o256, 0, START), why=2)
        self.check_stopped(ins(0o256, 7, THERE), {THERE: ins(0o256, 0, START)}, why=2)

    def test_stopped_within(self):
        self.check_stopped(ins(0o256, 0, THERE), {THERE: 0}, why=1)
        self.check_stopped(ins(0o256, 0, THERE), {THERE: ins(0o254, 4)}, why=3)
        self.check_stopped(ins(0o256, 0, THERE), {THERE: ins(0o254, 5)}, why=1)
        self.check_stopped(ins(0o256, 0, THERE), {THERE: ins(0o201, 3, THERE, 0, 1)}, why=2)
        self.check_stopped(ins(0o256, 0, THERE), {THERE: ins(0o133, 1, 5), 5: WORD}, why=1)


class PushTest(MachineTest):
    def test_the_state_word_with_each_flag(self):
        for had, half in FLAG_HALVES.items():
            self.check(ins(0o260, 3, THERE), {3: w(5, 0o2777), 0o3000: 77},
                       {3: w(6, 0o3000), 0o3000: w(half, NEXT)}, goes=THERE, had=had)
            self.check(ins(0o264, 3, THERE), {3: 5, THERE: 77}, {THERE: w(half, NEXT)}, goes=THERE + 1, had=had)
            self.check(ins(0o265, 3, THERE), {3: 5, THERE: 77}, {3: w(half, NEXT)}, goes=THERE, had=had)

    def test_pc_in_the_state_word_at_the_last_place(self):
        self.check(ins(0o260, 3, THERE), {3: w(5, 0o2777), 0o3000: 77}, {3: w(6, 0o3000), 0o3000: 0},
                   goes=THERE, had=0, at=LAST_PLACE)
        self.check(ins(0o265, 3, THERE), {3: 77}, {3: w(0o400000, LAST_PLACE)}, goes=THERE, had=V, at=LAST_PLACE - 1)

    def test_halves_of_0260(self):
        self.check(ins(0o260, 3, THERE), {3: ONES, 0: 77}, {3: 0, 0: NEXT}, goes=THERE, had=0)
        self.check(ins(0o260, 3, THERE), {3: w(0, 0o777777)}, {3: w(1, 0), 0: NEXT}, goes=THERE, had=0)
        self.check(ins(0o260, 3, THERE), {3: w(0o777777, 0o2777)}, {3: 0o3000, 0o3000: NEXT}, goes=THERE, had=0)
        self.check(ins(0o260, 0, THERE), {0: 0}, {0: w(1, 1), 1: NEXT}, goes=THERE, had=0)

    def test_0260_over_a_and_over_e(self):
        self.check(ins(0o260, 3, THERE), {3: w(5, 2)}, {3: NEXT}, goes=THERE, had=0)
        self.check(ins(0o260, 3, 3), {3: w(5, 0o2777)}, {3: w(6, 0o3000), 0o3000: NEXT}, goes=3, had=0)
        self.check(ins(0o260, 3, 0, 3), {3: w(5, 0o2777)}, {3: w(6, 0o3000), 0o3000: NEXT}, goes=0o2777, had=0)
        self.check(ins(0o260, 3, THERE), {3: w(5, THERE - 1)}, {3: w(6, THERE), THERE: NEXT}, goes=THERE, had=0)

    def test_0261(self):
        self.check(ins(0o261, 3, THERE), {3: w(5, 0o2777), 0o3000: 77, THERE: WORD},
                   {3: w(6, 0o3000), 0o3000: WORD})
        self.check(ins(0o261, 3, THERE), {3: ONES, 0: 77, THERE: WORD}, {3: 0, 0: WORD})
        self.check(ins(0o261, 3, THERE), {3: w(0, 0o777777), THERE: WORD}, {3: w(1, 0), 0: WORD})
        self.check(ins(0o261, 3, THERE), {3: w(0o777777, 0o2777), THERE: WORD}, {3: 0o3000, 0o3000: WORD})

    def test_0261_over_a_and_of_a(self):
        self.check(ins(0o261, 3, THERE), {3: w(5, 2), THERE: WORD}, {3: WORD})
        self.check(ins(0o261, 3, 3), {3: w(5, 0o2777)}, {3: w(6, 0o3000), 0o3000: w(5, 0o2777)})
        self.check(ins(0o261, 3, 3), {3: w(5, 2)}, {3: w(5, 2)})
        self.check(ins(0o261, 3, THERE), {3: w(5, THERE - 1), THERE: WORD}, {3: w(6, THERE)})


class PopTest(MachineTest):
    def test_0262(self):
        self.check(ins(0o262, 3, THERE), {3: w(5, 0o3000), 0o3000: WORD, THERE: 77}, {3: w(4, 0o2777), THERE: WORD})
        self.check(ins(0o262, 3, THERE), {3: 0, 0: WORD}, {3: ONES, THERE: WORD})
        self.check(ins(0o262, 3, THERE), {3: w(5, 0), 0: WORD}, {3: w(4, 0o777777), THERE: WORD})
        self.check(ins(0o262, 3, THERE), {3: 0o3000, 0o3000: WORD}, {3: w(0o777777, 0o2777), THERE: WORD})
        self.check(ins(0o262, 3, THERE), {3: ONES, LAST_PLACE: WORD}, {3: w(0o777776, 0o777776), THERE: WORD})

    def test_0262_to_a_and_of_a(self):
        self.check(ins(0o262, 3, 3), {3: w(5, 0o3000), 0o3000: WORD}, {3: w(4, 0o2777)})
        self.check(ins(0o262, 3, THERE), {3: w(5, 3)}, {3: w(4, 2), THERE: w(5, 3)})
        self.check(ins(0o262, 3, 4), {3: w(5, 0o3000), 0o3000: WORD}, {3: w(4, 0o2777), 4: WORD})

    def test_0263(self):
        self.check(ins(0o263, 3, THERE), {3: w(5, 0o3000), 0o3000: WORD}, {3: w(4, 0o2777)}, goes=0o701234)
        self.check(ins(0o263, 3, THERE), {3: 0, 0: ONES}, {3: ONES}, goes=LAST_PLACE)
        self.check(ins(0o263, 3, THERE), {3: w(5, 0), 0: WORD}, {3: w(4, 0o777777)}, goes=0o701234)
        self.check(ins(0o263, 3, THERE), {3: 0o3000, 0o3000: w(5, 0)}, {3: w(0o777777, 0o2777)}, goes=0)
        self.check(ins(0o263, 3, THERE), {3: w(5, 3)}, {3: w(4, 2)}, goes=3)

    def test_0263_leaves_the_flags(self):
        self.check(ins(0o263, 3, THERE), {3: w(5, 0o3000), 0o3000: w(0o700040, 5)}, {3: w(4, 0o2777)}, goes=5, had=0)
        self.check(ins(0o263, 3, THERE), {3: w(5, 0o3000), 0o3000: 5}, {3: w(4, 0o2777)}, goes=5, had=15)


class LinkTest(MachineTest):
    def test_0264(self):
        self.check(ins(0o264, 3, LAST_PLACE), {3: 5}, {LAST_PLACE: NEXT}, goes=0, had=0)
        self.check(ins(0o264, 3, 3), {3: 5}, {3: NEXT}, goes=4, had=0)

    def test_0265(self):
        self.check(ins(0o265, 0, LAST_PLACE), {0: 5}, {0: NEXT}, goes=LAST_PLACE, had=0)
        self.check(ins(0o265, 3, 3), {3: 5}, {3: NEXT}, goes=3, had=0)
        self.check(ins(0o265, 3, 1, 3), {3: THERE}, {3: NEXT}, goes=THERE + 1, had=0)

    def test_0266(self):
        self.check(ins(0o266, 3, THERE), {3: WORD, THERE: 77}, {3: w(THERE, NEXT), THERE: WORD}, goes=THERE + 1)
        self.check(ins(0o266, 0, THERE), {0: WORD, THERE: 77}, {0: w(THERE, NEXT), THERE: WORD}, goes=THERE + 1)
        self.check(ins(0o266, 3, LAST_PLACE), {3: WORD}, {3: w(LAST_PLACE, NEXT), LAST_PLACE: WORD}, goes=0)
        self.check(ins(0o266, 3, 3), {3: WORD}, {3: w(3, NEXT)}, goes=4)
        self.check(ins(0o266, 3, THERE), {3: WORD}, {3: w(THERE, 0), THERE: WORD}, goes=THERE + 1, at=LAST_PLACE)

    def test_0267(self):
        self.check(ins(0o267, 3, THERE), {3: w(0o3000, 77), 0o3000: WORD}, {3: WORD}, goes=THERE)
        self.check(ins(0o267, 3, THERE), {3: w(3, 77)}, {}, goes=THERE)
        self.check(ins(0o267, 3, 3), {3: w(0o3000, 77), 0o3000: WORD}, {3: WORD}, goes=3)
        self.check(ins(0o267, 3, 0, 3), {3: w(0o3000, 77), 0o3000: WORD}, {3: WORD}, goes=77)
        self.check(ins(0o267, 3, THERE), {3: minus(1), LAST_PLACE: WORD}, {3: WORD}, goes=THERE)


if __name__ == "__main__":
    unittest.main()
