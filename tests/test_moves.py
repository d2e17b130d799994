"""0200 to 0217, 0250 and 0251."""

import unittest

from helper import C0, C1, HIGHEST, LAST_PLACE, LOWEST, ONES, START, THERE, V, MachineTest, ins, w

WORD = w(0o123456, 0o701234)
MINUS_WORD = w(0o654321, 0o076544)

# A word, it with its halves changed, 0 less it with the flags of that, its size with the flags of that.
ROWS = [
    (0, 0, 0, C0 | C1, 0, 0),
    (1, w(1, 0), ONES, 0, 1, 0),
    (HIGHEST, w(0o777777, 0o377777), w(0o400000, 1), 0, HIGHEST, 0),
    (LOWEST, w(0, 0o400000), LOWEST, V | C1, LOWEST, V | C1),
    (ONES, ONES, 1, 0, 1, 0),
    (WORD, w(0o701234, 0o123456), MINUS_WORD, 0, WORD, 0),
    (MINUS_WORD, w(0o076544, 0o654321), WORD, 0, WORD, 0),
]

# The same of 0,,E, by E.
ROWS_OF_E = [
    (0, 0, 0, C0 | C1, 0, 0),
    (1, w(1, 0), ONES, 0, 1, 0),
    (THERE, w(THERE, 0), w(0o777777, 0o776000), 0, THERE, 0),
    (0o400000, w(0o400000, 0), w(0o777777, 0o400000), 0, 0o400000, 0),
    (LAST_PLACE, w(0o777777, 0), w(0o777777, 1), 0, 0o777777, 0),
]


def kinds(row):
    """For each of the four ops of way 0: what comes out, and the flags."""
    word, halves_changed, less, less_flags, size, size_flags = row
    return [(0o200, word, 0), (0o204, halves_changed, 0), (0o210, less, less_flags), (0o214, size, size_flags)]


class MoveTest(MachineTest):
    def test_from_e(self):
        for row in ROWS:
            for op, word, flag in kinds(row):
                for ac in (0, 3, 15):
                    self.check(ins(op, ac, THERE), {ac: 77, THERE: row[0]}, {ac: word}, flag=flag)

    def test_from_0_e(self):
        for row in ROWS_OF_E:
            for op, word, flag in kinds(row):
                for ac in (0, 3):
                    self.check(ins(op + 1, ac, row[0]), {ac: 77}, {ac: word}, flag=flag)

    def test_from_a_to_e(self):
        for row in ROWS:
            for op, word, flag in kinds(row):
                for ac in (0, 3):
                    self.check(ins(op + 2, ac, THERE), {ac: row[0], THERE: 77}, {THERE: word}, flag=flag)

    def test_from_e_to_e_and_to_a_if_a_is_not_0(self):
        for row in ROWS:
            for op, word, flag in kinds(row):
                self.check(ins(op + 3, 3, THERE), {3: 77, THERE: row[0]}, {3: word, THERE: word}, flag=flag)
                self.check(ins(op + 3, 0, THERE), {0: 77, THERE: row[0]}, {THERE: word}, flag=flag)

    def test_e_is_a_itself(self):
        for row in ROWS:
            for op, word, flag in kinds(row):
                for way in (0, 2, 3):
                    self.check(ins(op + way, 3, 3), {3: row[0]}, {3: word}, flag=flag)

    def test_e_is_another_of_the_registers(self):
        self.check(ins(0o200, 3, 4), {3: 77, 4: WORD}, {3: WORD})
        self.check(ins(0o206, 3, 4), {3: WORD, 4: 77}, {4: w(0o701234, 0o123456)})
        self.check(ins(0o213, 3, 4), {3: 77, 4: WORD}, {3: MINUS_WORD, 4: MINUS_WORD})
        self.check(ins(0o213, 0, 0), {0: WORD}, {0: MINUS_WORD})

    def test_e_is_the_instruction_itself(self):
        code = ins(0o202, 3, START)
        self.check(code, {3: WORD}, {START: WORD})

    def test_flags_are_set_one_by_one_and_stay(self):
        self.check(ins(0o210, 3, THERE), {THERE: LOWEST}, {3: LOWEST}, flag=V | C1, had=C0)
        self.check(ins(0o210, 3, THERE), {THERE: 1}, {3: ONES}, had=V | C0)


class ExchangeTest(MachineTest):
    def test_a_and_e_change_places(self):
        self.check(ins(0o250, 3, THERE), {3: WORD, THERE: 5}, {3: 5, THERE: WORD})
        self.check(ins(0o250, 0, THERE), {0: WORD, THERE: 5}, {0: 5, THERE: WORD})
        self.check(ins(0o250, 15, 0), {15: ONES, 0: 5}, {15: 5, 0: ONES})
        self.check(ins(0o250, 3, LAST_PLACE), {LAST_PLACE: 9}, {3: 9, LAST_PLACE: 0})

    def test_e_is_a_itself(self):
        self.check(ins(0o250, 3, 3), {3: WORD}, {})


class BlockTest(MachineTest):
    def test_one_word(self):
        self.check(ins(0o251, 3, 0o200), {3: w(0o100, 0o200), 0o100: 7, 0o101: 8, 0o177: 1, 0o200: 2, 0o201: 3},
                   {0o200: 7})

    def test_several(self):
        self.check(ins(0o251, 3, 0o202), {3: w(0o100, 0o200), 0o100: 7, 0o101: 8, 0o102: 9, 0o103: 10, 0o203: 3},
                   {0o200: 7, 0o201: 8, 0o202: 9})
        self.check(ins(0o251, 0, 0o102), {0: w(0o200, 0o100), 0o200: 7, 0o201: 8, 0o202: 9, 0o203: 10, 0o103: 3},
                   {0o100: 7, 0o101: 8, 0o102: 9})

    def test_onto_the_next_word(self):
        self.check(ins(0o251, 3, 0o106), {3: w(0o100, 0o101), 0o100: 7, 0o103: 9, 0o107: 8},
                   {0o101: 7, 0o102: 7, 0o103: 7, 0o104: 7, 0o105: 7, 0o106: 7})

    def test_onto_the_one_behind_the_next_word(self):
        self.check(ins(0o251, 3, 0o106), {3: w(0o100, 0o102), 0o100: 7, 0o101: 8, 0o107: 9},
                   {0o102: 7, 0o103: 8, 0o104: 7, 0o105: 8, 0o106: 7})

    def test_onto_the_third(self):
        words = {3: w(0o100, 0o103), 0o100: 4, 0o101: 5, 0o102: 6, 0o103: 1, 0o114: 2}
        self.check(ins(0o251, 3, 0o113), words,
                   {0o103: 4, 0o104: 5, 0o105: 6, 0o106: 4, 0o107: 5, 0o110: 6, 0o111: 4, 0o112: 5, 0o113: 6})
        self.check(ins(0o251, 3, 0o112), {**words, 0o113: 2},
                   {0o103: 4, 0o104: 5, 0o105: 6, 0o106: 4, 0o107: 5, 0o110: 6, 0o111: 4, 0o112: 5})

    def test_onto_words_before(self):
        self.check(ins(0o251, 3, 0o103), {3: w(0o101, 0o100), 0o100: 1, 0o101: 2, 0o102: 3, 0o103: 4, 0o104: 5},
                   {0o100: 2, 0o101: 3, 0o102: 4, 0o103: 5})

    def test_onto_itself(self):
        self.check(ins(0o251, 3, 0o102), {3: w(0o100, 0o100), 0o100: 1, 0o101: 2, 0o102: 3, 0o103: 4}, {})

    def test_the_first_goes_above_e(self):
        self.check(ins(0o251, 3, 0o200), {3: w(0o100, 0o300), 0o100: 7, 0o101: 8, 0o200: 1, 0o301: 2}, {0o300: 7})
        self.check(ins(0o251, 3, 0o200), {3: w(0o100, 0o201), 0o100: 7, 0o101: 8, 0o200: 1, 0o202: 2}, {0o201: 7})
        self.check(ins(0o251, 3, 0), {3: w(0o100, LAST_PLACE), 0o100: 7, 0o101: 8}, {LAST_PLACE: 7})
        self.check(ins(0o251, 3, 0o100), {3: w(0o400, 0o300), 0o400: 7, 0o401: 8, 0o100: 1, 0o301: 2}, {0o300: 7})

    def test_from_beyond_the_last_place(self):
        words = {0: 3, 1: 4, 5: w(LAST_PLACE - 1, 0o100), LAST_PLACE - 1: 1, LAST_PLACE: 2, 0o104: 9}
        self.check(ins(0o251, 5, 0o103), words, {0o100: 1, 0o101: 2, 0o102: 3, 0o103: 4})
        self.check(ins(0o251, 5, 0o101), words, {0o100: 1, 0o101: 2})

    def test_from_beyond_the_last_place_onto_what_was_brought(self):
        words = {0: 3, 1: 4, 5: w(LAST_PLACE - 1, 0), 6: 7, 7: 8, LAST_PLACE - 1: 1, LAST_PLACE: 2}
        self.check(ins(0o251, 5, 6), words, {0: 1, 1: 2, 2: 1, 3: 2, 4: 1, 5: 2, 6: 1})

    def test_up_to_the_last_place(self):
        self.check(ins(0o251, 3, LAST_PLACE), {3: w(0o100, LAST_PLACE - 1), 0o100: 7, 0o101: 8, 0o102: 9},
                   {LAST_PLACE - 1: 7, LAST_PLACE: 8})

    def test_over_the_registers_and_over_a(self):
        brought = {place: 0o40 + place for place in range(16)}
        source = {0o100 + place: 0o40 + place for place in range(16)}
        self.check(ins(0o251, 3, 15), {3: w(0o100, 0), **source}, brought)
        self.check(ins(0o251, 3, 4), {3: w(0o100, 2), 0o100: 5, 0o101: 6, 0o102: 7}, {2: 5, 3: 6, 4: 7})

    def test_a_stays_where_nothing_goes_to_it(self):
        self.check(ins(0o251, 3, 0o201), {3: w(0o100, 0o200), 0o100: 7, 0o101: 8}, {0o200: 7, 0o201: 8})

    def test_a_long_one(self):
        looked_at = {0o777: 0, START: 5, 0o1001: 5, 0o123456: 5, 0o777776: 5, LAST_PLACE: 5}
        self.check(ins(0o251, 3, LAST_PLACE), {3: w(0o776, 0o777), 0o776: 5}, {**looked_at, 0o777: 5})

    def test_what_it_brings_is_done_next(self):
        # It moves over the instruction behind it.
        self.check(ins(0o251, 3, START + 1), {3: w(0o100, START + 1), 0o100: 7, START + 1: 1}, {START + 1: 7})


if __name__ == "__main__":
    unittest.main()
