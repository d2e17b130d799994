"""0133 to 0137."""

import unittest

from helper import (
    HIGHEST, LAST_PLACE, LOWEST, ONES, START, THERE, MachineTest, ins, leading, rows_of_words, w)

BYTES = 0o3000
WORD = w(0o123456, 0o765432)
TURNED = w(0o654321, 0o012345)
ASIDE = 1 << 23


def pointer(p, s, y=BYTES, x=0, i=0):
    return p << 30 | s << 24 | i << 22 | x << 18 | y


# p, s, the byte of WORD, the byte of TURNED (each of its bits is the other one).
LOADED = [
    (0, 36, WORD, TURNED),
    (0, 37, WORD, TURNED),
    (0, 63, WORD, TURNED),
    (0, 0, 0, 0),
    (29, 0, 0, 0),
    (36, 0, 0, 0),
    (0, 1, 0, 1),
    (1, 1, 1, 0),
    (34, 1, 0, 1),
    (35, 1, 0, 1),
    (33, 1, 1, 0),
    (0, 6, 0o32, 0o45),
    (6, 6, 0o54, 0o23),
    (30, 6, 0o12, 0o65),
    (0, 7, 0o032, 0o145),
    (29, 7, 0o024, 0o153),
    (0, 35, w(0o123456, 0o765432), w(0o254321, 0o012345)),
    (18, 18, 0o123456, 0o654321),
    (29, 36, 0o024, 0o153),
    (30, 7, 0o12, 0o65),
    (35, 7, 0, 1),
    (35, 36, 0, 1),
    (18, 37, 0o123456, 0o654321),
    (33, 63, 1, 6),
    (36, 1, 0, 0),
    (36, 36, 0, 0),
    (36, 63, 0, 0),
    (63, 1, 0, 0),
    (63, 63, 0, 0),
]

# p, s, a, the word before, the word then.
DEPOSITED = [
    (0, 36, WORD, TURNED, WORD),
    (0, 37, WORD, TURNED, WORD),
    (0, 63, WORD, TURNED, WORD),
    (0, 0, WORD, TURNED, TURNED),
    (63, 0, ONES, WORD, WORD),
    (0, 1, 1, 0, 1),
    (0, 1, w(0o777777, 0o777776), ONES, w(0o777777, 0o777776)),
    (35, 1, 1, 0, LOWEST),
    (35, 1, w(0o777777, 0o777776), ONES, HIGHEST),
    (6, 6, 0o7712, ONES, w(0o777777, 0o771277)),
    (6, 6, 0o7712, 0, 0o1200),
    (29, 7, 0o153, 0, w(0o654000, 0)),
    (29, 7, 0o777624, ONES, w(0o123777, 0o777777)),
    (29, 7, 0o777624, WORD, w(0o123456, 0o765432)),
    (29, 36, 0o123, ONES, w(0o517777, 0o777777)),
    (30, 7, 0o177, 0, w(0o770000, 0)),
    (30, 7, 0o100, ONES, w(0o007777, 0o777777)),
    (35, 7, 0o176, ONES, HIGHEST),
    (35, 7, 1, 0, LOWEST),
    (18, 63, 0o654321, WORD, w(0o654321, 0o765432)),
    (36, 1, 1, 0, 0),
    (36, 36, 0, WORD, WORD),
    (36, 36, ONES, WORD, WORD),
    (63, 63, ONES, WORD, WORD),
    (63, 63, 0, WORD, WORD),
]

# p, s, Y, and of the next pointer p, Y.
NEXT_ONES = [
    (36, 7, BYTES, 29, BYTES),
    (29, 7, BYTES, 22, BYTES),
    (8, 7, BYTES, 1, BYTES),
    (7, 7, BYTES, 0, BYTES),
    (6, 7, BYTES, 29, BYTES + 1),
    (1, 7, BYTES, 29, BYTES + 1),
    (0, 7, BYTES, 29, BYTES + 1),
    (0, 0, BYTES, 0, BYTES),
    (35, 0, BYTES, 35, BYTES),
    (63, 0, BYTES, 63, BYTES),
    (1, 1, BYTES, 0, BYTES),
    (0, 1, BYTES, 35, BYTES + 1),
    (63, 1, BYTES, 62, BYTES),
    (35, 36, BYTES, 0, BYTES + 1),
    (36, 36, BYTES, 0, BYTES),
    (63, 36, BYTES, 27, BYTES),
    (0, 35, BYTES, 1, BYTES + 1),
    (36, 37, BYTES, 0, BYTES + 1),
    (37, 37, BYTES, 0, BYTES),
    (63, 37, BYTES, 26, BYTES),
    (0, 63, BYTES, 0, BYTES + 1),
    (62, 63, BYTES, 0, BYTES + 1),
    (63, 63, BYTES, 0, BYTES),
    (0, 7, LAST_PLACE, 29, 0),
    (0, 36, LAST_PLACE, 0, 0),
    (0, 63, LAST_PLACE, 0, 0),
    (29, 7, LAST_PLACE, 22, LAST_PLACE),
    (0, 7, LAST_PLACE - 1, 29, LAST_PLACE),
    (0, 7, 0o377777, 29, 0o400000),
]


class LoadTest(MachineTest):
    def test_the_byte(self):
        for p, s, byte, turned_byte in LOADED:
            for word, loaded in ((WORD, byte), (TURNED, turned_byte)):
                for ac in (0, 3):
                    self.check(ins(0o135, ac, THERE), {ac: 77, THERE: pointer(p, s), BYTES: word}, {ac: loaded})

    def test_the_bit_aside(self):
        self.check(ins(0o135, 3, THERE), {THERE: pointer(6, 6) | ASIDE, BYTES: WORD}, {3: 0o54})

    def test_the_next_byte(self):
        self.check(ins(0o134, 3, THERE), {3: 77, THERE: pointer(36, 6), BYTES: WORD},
                   {3: 0o12, THERE: pointer(30, 6)})
        self.check(ins(0o134, 3, THERE), {THERE: pointer(30, 6), BYTES: WORD}, {3: 0o34, THERE: pointer(24, 6)})
        self.check(ins(0o134, 3, THERE), {THERE: pointer(0, 6), BYTES: ONES, BYTES + 1: WORD},
                   {3: 0o12, THERE: pointer(30, 6, BYTES + 1)})
        self.check(ins(0o134, 3, THERE), {THERE: pointer(0, 37), BYTES: ONES, BYTES + 1: WORD},
                   {3: WORD, THERE: pointer(0, 37, BYTES + 1)})
        self.check(ins(0o134, 3, THERE), {THERE: pointer(0, 7, LAST_PLACE) | ASIDE, 0: WORD},
                   {3: 0o024, THERE: pointer(29, 7, 0) | ASIDE})

    def test_e_is_a_itself(self):
        self.check(ins(0o135, 3, 3), {3: pointer(6, 6), BYTES: WORD}, {3: 0o54})
        self.check(ins(0o134, 3, 3), {3: pointer(12, 6), BYTES: WORD}, {3: 0o54})
        self.check(ins(0o135, 3, 3), {3: pointer(0, 6, 3)}, {3: 3})
        # The next pointer is what the byte is of: p 6, s 6, Y 3.
        self.check(ins(0o134, 3, 3), {3: pointer(36, 6, 3)}, {3: 0o36})

    def test_a_byte_of_a(self):
        self.check(ins(0o135, 3, THERE), {3: WORD, THERE: pointer(6, 6, 3)}, {3: 0o54})
        self.check(ins(0o134, 3, THERE), {3: WORD, THERE: pointer(12, 6, 3)}, {3: 0o54, THERE: pointer(6, 6, 3)})

    def test_a_byte_of_the_pointer(self):
        self.check(ins(0o134, 3, THERE), {THERE: pointer(36, 6, THERE)}, {3: 0o36, THERE: pointer(30, 6, THERE)})


class DepositTest(MachineTest):
    def test_the_byte(self):
        for p, s, a, before, word in DEPOSITED:
            for ac in (0, 3):
                self.check(ins(0o137, ac, THERE), {ac: a, THERE: pointer(p, s), BYTES: before}, {BYTES: word})

    def test_the_next_byte(self):
        self.check(ins(0o136, 3, THERE), {3: 0o77712, THERE: pointer(36, 6), BYTES: ONES},
                   {THERE: pointer(30, 6), BYTES: w(0o127777, 0o777777)})
        self.check(ins(0o136, 3, THERE), {3: 0o77712, THERE: pointer(0, 6), BYTES: 5, BYTES + 1: ONES},
                   {THERE: pointer(30, 6, BYTES + 1), BYTES + 1: w(0o127777, 0o777777)})
        self.check(ins(0o136, 3, THERE), {3: 1, THERE: pointer(0, 7, LAST_PLACE) | ASIDE, 0: ONES},
                   {0: w(0o007777, 0o777777), THERE: pointer(29, 7, 0) | ASIDE})

    def test_e_is_a_itself(self):
        self.check(ins(0o137, 3, 3), {3: pointer(0, 36)}, {BYTES: pointer(0, 36)})
        # The byte is of the next pointer, which the register is by then.
        self.check(ins(0o136, 3, 3), {3: pointer(36, 36)}, {3: pointer(0, 36), BYTES: pointer(0, 36)})
        self.check(ins(0o136, 3, 3), {3: pointer(0, 36)},
                   {3: pointer(0, 36, BYTES + 1), BYTES + 1: pointer(0, 36, BYTES + 1)})
        self.check(ins(0o136, 3, 3), {3: pointer(0, 18), BYTES + 1: ONES},
                   {3: pointer(18, 18, BYTES + 1), BYTES + 1: w(BYTES + 1, 0o777777)})

    def test_a_byte_of_a_and_of_the_pointer(self):
        self.check(ins(0o137, 3, THERE), {3: 0o54, THERE: pointer(6, 6, 3)}, {3: 0o5454})
        self.check(ins(0o137, 3, THERE), {3: 0o54, THERE: pointer(6, 6, THERE)}, {THERE: pointer(6, 6, 0o5400)})
        self.check(ins(0o136, 3, THERE), {3: 0o54, THERE: pointer(12, 6, THERE)}, {THERE: pointer(6, 6, 0o5400)})


class NextPointerTest(MachineTest):
    def test_0133(self):
        for p, s, y, next_p, next_y in NEXT_ONES:
            self.check(ins(0o133, 0, THERE), {THERE: pointer(p, s, y)}, {THERE: pointer(next_p, s, next_y)})

    def test_the_same_for_0134_and_0136(self):
        for p, s, y, next_p, next_y in NEXT_ONES:
            for op in (0o134, 0o136):
                self.check(ins(op, 3, THERE), {THERE: pointer(p, s, y)}, {THERE: pointer(next_p, s, next_y)})

    def test_the_rest_of_it_stays(self):
        for p, s, y, next_p, next_y in NEXT_ONES:
            for x, i, aside in ((15, 1, ASIDE), (0, 0, ASIDE), (5, 0, 0), (0, 1, 0)):
                self.check(ins(0o133, 0, THERE), {THERE: pointer(p, s, y, x, i) | aside},
                           {THERE: pointer(next_p, s, next_y, x, i) | aside})

    def test_of_the_registers(self):
        self.check(ins(0o133, 0, 0), {0: pointer(36, 7)}, {0: pointer(29, 7)})
        self.check(ins(0o133, 0, 3), {3: pointer(0, 7)}, {3: pointer(29, 7, BYTES + 1)})

    def test_0133_with_a_not_0(self):
        for ac in range(1, 16):
            self.check_stopped(ins(0o133, ac, THERE), {THERE: pointer(36, 7)}, why=1)

    def test_0133_does_not_ask_where_the_pointer_leads(self):
        self.check(ins(0o133, 0, THERE), {THERE: pointer(36, 7, 0o3000, 0, 1), 0o3000: leading(0o3000)},
                   {THERE: pointer(29, 7, 0o3000, 0, 1)})


class PointerPlaceTest(MachineTest):
    def test_by_x(self):
        self.check(ins(0o135, 3, THERE), {5: w(0o777777, 0o1000), THERE: pointer(6, 6, 0o2000, 5), BYTES: WORD},
                   {3: 0o54})
        self.check(ins(0o135, 3, THERE), {5: 0o777777, THERE: pointer(6, 6, 1, 5), 0: WORD}, {3: 0o54})
        self.check(ins(0o137, 3, THERE), {5: 0o1000, 3: 0o54, THERE: pointer(6, 6, 0o2000, 5)}, {BYTES: 0o5400})

    def test_by_i(self):
        self.check(ins(0o135, 3, THERE), {THERE: pointer(6, 6, 0o2500, 0, 1), 0o2500: BYTES, BYTES: WORD}, {3: 0o54})
        self.check(ins(0o135, 3, THERE),
                   {5: 0o100, 6: 0o1000, THERE: pointer(6, 6, 0o2400, 5, 1), 0o2500: ins(0o777, 0, 0o2000, 6),
                    BYTES: WORD}, {3: 0o54})
        self.check(ins(0o137, 3, THERE), {3: 0o54, THERE: pointer(6, 6, 0o2500, 0, 1), 0o2500: BYTES}, {BYTES: 0o5400})

    def test_the_instructions_own_place_is_another(self):
        self.check(ins(0o135, 3, 0o100, 5, 1), {5: 0o10, 0o110: THERE, THERE: pointer(6, 6), BYTES: WORD}, {3: 0o54})

    def test_the_next_pointers_place(self):
        # Y one more leads over another word.
        self.check(ins(0o134, 3, THERE),
                   {THERE: pointer(0, 6, 0o2500, 0, 1), 0o2500: 0o100, 0o2501: BYTES, 0o100: ONES, BYTES: WORD},
                   {3: 0o12, THERE: pointer(30, 6, 0o2501, 0, 1)})

    def test_the_next_pointer_is_there_before_its_place_is_told(self):
        # Register 5 is the pointer, and its X: the place is Y and the right half of the next one.
        self.check(ins(0o134, 3, 5), {5: pointer(0, 6, 0o100, 5), 0o202: WORD, 0o201: ONES, 0o200: 0o7700000000},
                   {3: 0o12, 5: pointer(30, 6, 0o101, 5)})
        self.check(ins(0o136, 3, 5), {3: 0o77, 5: pointer(0, 6, 0o100, 5)},
                   {5: pointer(30, 6, 0o101, 5), 0o202: w(0o770000, 0)})

    def test_a_pointer_that_leads_to_itself(self):
        # As it is it leads to BYTES, by the word before it; the next one leads to itself.
        words = {3: 77, THERE: BYTES, THERE + 1: pointer(0, 6, THERE, 0, 1), BYTES: WORD}
        self.check(ins(0o135, 3, THERE + 1), words, {3: 0o32})
        self.check_stopped(ins(0o134, 3, THERE + 1), words, why=2)
        self.check_stopped(ins(0o136, 3, THERE + 1), words, why=2)
        # As it is it leads to itself; the next one leads to BYTES, by the word behind it.
        words = {3: 77, THERE: pointer(0, 6, THERE, 0, 1), THERE + 1: BYTES, BYTES: WORD}
        self.check_stopped(ins(0o135, 3, THERE), words, why=2)
        self.check_stopped(ins(0o137, 3, THERE), words, why=2)
        self.check(ins(0o134, 3, THERE), words, {3: 0o12, THERE: pointer(30, 6, THERE + 1, 0, 1)})

    def test_a_pointer_with_999_words_that_lead_on(self):
        prepare = rows_of_words(0o4000, 998, leading(0o4001))
        last = 0o4000 + 998
        words = {THERE: pointer(6, 6, 0o4000, 0, 1), last: BYTES, BYTES: WORD}
        self.check(ins(0o135, 3, THERE), words, {3: 0o54}, prepare=prepare)
        self.check(ins(0o134, 3, THERE), {**words, THERE: pointer(12, 6, 0o4000, 0, 1)},
                   {3: 0o54, THERE: pointer(6, 6, 0o4000, 0, 1)}, prepare=prepare)
        self.check(ins(0o137, 3, THERE), words, {BYTES: w(0o123456, 0o760032)}, prepare=prepare)

    def test_a_pointer_with_a_thousand(self):
        prepare = rows_of_words(0o4000, 999, leading(0o4001))
        last = 0o4000 + 999
        for op in (0o134, 0o135, 0o136, 0o137):
            words = {3: 77, THERE: pointer(12, 6, 0o4000, 0, 1), last: BYTES, BYTES: WORD}
            self.check_stopped(ins(op, 3, THERE), words, why=2, prepare=prepare)

    def test_a_pointer_that_leads_on_and_on(self):
        for op in (0o134, 0o135, 0o136, 0o137):
            words = {3: 77, THERE: pointer(36, 6, 0o3000, 0, 1), 0o3000: leading(0o3000)}
            self.check_stopped(ins(op, 3, THERE), words, why=2)
            self.check_stopped(ins(op, 3, 5), {5: words[THERE], **words}, why=2)
            self.check_stopped(ins(op, 5, 5), {5: words[THERE], **words}, why=2)
            self.check_stopped(ins(0o256, 0, 0o100), {0o100: ins(op, 3, THERE), **words}, why=2)

    def test_the_next_pointer_alone_leads_on_and_on(self):
        # It would lead to BYTES as it is; the next one leads to a word that leads to itself.
        words = {3: 77, THERE: pointer(0, 6, 0o2500, 0, 1), 0o2500: BYTES, 0o2501: leading(0o2501), BYTES: WORD}
        self.check_stopped(ins(0o134, 3, THERE), words, why=2)
        self.check_stopped(ins(0o136, 3, THERE), words, why=2)
        self.check(ins(0o135, 3, THERE), words, {3: 0o32})

    def test_the_next_pointer_alone_leads_somewhere(self):
        words = {3: 77, THERE: pointer(0, 6, 0o2500, 0, 1), 0o2500: leading(0o2500), 0o2501: BYTES, BYTES: WORD}
        self.check(ins(0o134, 3, THERE), words, {3: 0o12, THERE: pointer(30, 6, 0o2501, 0, 1)})
        self.check_stopped(ins(0o135, 3, THERE), words, why=2)

    def test_the_instructions_place_is_told_first(self):
        self.check_stopped(ins(0o133, 1, THERE, 0, 1), {THERE: leading(THERE)}, why=2)
        self.check_stopped(ins(0o133, 0, THERE, 0, 1), {THERE: leading(THERE)}, why=2)
        self.check_stopped(ins(0o136, 3, START, 0, 1), {3: 5}, why=2)


if __name__ == "__main__":
    unittest.main()
