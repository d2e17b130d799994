"""The calls tn_run and tn_why, and what holds over the whole program."""

import unittest

from helper import (
    C0, C1, CLEAR, HIGHEST, LAST_PLACE, START, THERE, WHY, MachineTest, Refusing, flags, get, ins, leading, line,
    numbers_of, pc, put, run, w)

from wordthirtysix.machine import answers

INT_LOW = -2147483648
INT_HIGH = 2147483647
HALT = ins(0o254, 4)
# Does nothing.
NEVER = ins(0o300)

NAMED = [
    *range(0o133, 0o140), *range(0o200, 0o247), *range(0o250, 0o257), *range(0o260, 0o700)]


def words_from(start, *words):
    return [put(start + number, word) for number, word in enumerate(words)]


class RefusedRunTest(unittest.TestCase):
    def test_no_such_n(self):
        for n in (INT_LOW, -1000000, -2, -1, 1000001, 1000002, 2000000, INT_HIGH):
            with self.subTest(n=n):
                given = numbers_of(CLEAR, *words_from(START, ins(0o201, 3, 5)), pc(START), flags(9),
                                   run(n), pc(-1), flags(-1), get(3), WHY)
                self.assertEqual(given[-5:], [-1, START, 9, 0, 0])

    def test_it_leaves_what_why_answers(self):
        for word, why in ((0, 1), (leading(START), 2), (HALT, 3)):
            given = numbers_of(CLEAR, put(START, word), pc(START), run(1), WHY, run(-1), WHY, run(1000001), WHY)
            self.assertEqual(given[-6:], [0, why, -1, why, -1, why])


class CountTest(unittest.TestCase):
    def test_none(self):
        given = numbers_of(CLEAR, put(START, ins(0o201, 3, 5)), pc(START), flags(6), run(0), WHY, pc(-1), flags(-1),
                           get(3))
        self.assertEqual(given[-5:], [0, 0, START, 6, 0])

    def test_none_behind_one_that_was_stopped(self):
        given = numbers_of(CLEAR, put(START, HALT), pc(START), run(5), WHY, run(0), WHY, pc(-1))
        self.assertEqual(given[-5:], [0, 3, 0, 0, START])

    def test_one_by_one(self):
        code = words_from(START, ins(0o201, 3, 5), ins(0o271, 3, 6), ins(0o202, 3, THERE), HALT)
        given = numbers_of(CLEAR, *code, pc(START), run(1), WHY, pc(-1), get(3), run(1), WHY, pc(-1), get(3),
                           run(1), WHY, pc(-1), get(THERE), run(1), WHY, pc(-1))
        self.assertEqual(given[6:], [1, 0, START + 1, 5, 1, 0, START + 2, 0o13, 1, 0, START + 3, 0o13,
                                     0, 3, START + 3])

    def test_several_at_once(self):
        code = words_from(START, ins(0o201, 3, 5), ins(0o271, 3, 6), ins(0o202, 3, THERE), HALT)
        for n, done, why in ((0, 0, 0), (1, 1, 0), (2, 2, 0), (3, 3, 0), (4, 3, 3), (5, 3, 3), (1000000, 3, 3)):
            given = numbers_of(CLEAR, *code, pc(START), run(n), WHY, pc(-1))
            self.assertEqual(given[6:], [done, why, START + done])

    def test_stopped_at_the_first(self):
        for word, why in ((0, 1), (ins(0o257), 1), (leading(START), 2), (HALT, 3)):
            for n in (1, 2, 1000000):
                given = numbers_of(CLEAR, put(START, word), pc(START), run(n), WHY, pc(-1))
                self.assertEqual(given[3:], [0, why, START])

    def test_stopped_at_a_later_one(self):
        for word, why in ((0, 1), (leading(START + 2), 2), (HALT, 3)):
            given = numbers_of(CLEAR, *words_from(START, NEVER, NEVER, word), pc(START), run(100), WHY, pc(-1))
            self.assertEqual(given[5:], [2, why, START + 2])

    def test_why_of_the_last_run_alone(self):
        code = words_from(START, NEVER, HALT, NEVER, 0, NEVER)
        given = numbers_of(CLEAR, *code, pc(START), run(5), WHY, pc(START + 2), WHY, run(5), WHY, pc(START + 4),
                           run(1), WHY, WHY)
        self.assertEqual(given[7:], [1, 3, START + 1, 3, 1, 1, START + 3, 1, 0, 0])

    def test_why_before_any_run(self):
        self.assertEqual(numbers_of(CLEAR, WHY), [0, 0])

    def test_other_calls_leave_why(self):
        given = numbers_of(CLEAR, run(1), WHY, put(5, 5), get(5), pc(7), flags(3), put(-1, 5), pc(-2), flags(16), WHY)
        self.assertEqual(given[1:], [0, 1, 0, 5, 0, 0, -1, -1, -1, 1])

    def test_clear_behind_a_run(self):
        code = words_from(START, ins(0o201, 3, 5), ins(0o210, 4, 0o100), ins(0o202, 3, THERE), HALT)
        given = numbers_of(CLEAR, *code, pc(START), run(9), WHY, flags(-1), pc(-1), get(3), get(THERE),
                           CLEAR, WHY, flags(-1), pc(-1), get(3), get(THERE), get(START))
        self.assertEqual(given[6:], [3, 3, C0 | C1, START + 3, 5, 5, 0, 0, 0, 0, 0, 0, 0])


class PcTest(MachineTest):
    def test_one_more_than_the_last_place(self):
        self.check(NEVER, goes=0, at=LAST_PLACE)
        self.check(ins(0o304), goes=1, at=LAST_PLACE)
        self.check(ins(0o264, 0, LAST_PLACE), {}, {LAST_PLACE: START + 1}, goes=0, had=0)
        self.check_stopped(HALT, why=3, at=LAST_PLACE)

    def test_on_over_the_last_place(self):
        given = numbers_of(CLEAR, put(LAST_PLACE - 1, NEVER), put(LAST_PLACE, NEVER), put(0, NEVER), put(1, HALT),
                           pc(LAST_PLACE - 1), run(10), WHY, pc(-1))
        self.assertEqual(given[-3:], [3, 3, 1])

    def test_instructions_in_the_registers(self):
        given = numbers_of(CLEAR, put(0, ins(0o271, 1, 1)), put(1, ins(0o201, 5, 6)), put(2, HALT), run(10), WHY,
                           pc(-1), get(5))
        self.assertEqual(given[-4:], [2, 3, 2, 7])


class AsBeforeTest(MachineTest):
    def test_what_was_done_before_stays(self):
        for word, why in ((0, 1), (leading(START + 2), 2), (HALT, 3), (ins(0o256, 0, START + 2), 2)):
            code = words_from(START, ins(0o201, 3, 5), ins(0o213, 3, THERE), word)
            given = numbers_of(CLEAR, *code, pc(START), flags(1), run(10), WHY, pc(-1), flags(-1), get(3), get(THERE))
            self.assertEqual(given[6:], [2, why, START + 2, 1 | C0 | C1, 0, 0])

    def test_it_is_stopped_again(self):
        given = numbers_of(CLEAR, put(START, HALT), pc(START), run(10), WHY, run(10), WHY, put(START, NEVER),
                           run(1), WHY, pc(-1))
        self.assertEqual(given[3:], [0, 3, 0, 3, 0, 1, 0, START + 1])

    def test_a_stopped_byte_behind_others(self):
        # The first byte is there; the next pointer of the second one leads on and on.
        pointer = 6 << 30 | 6 << 24 | 1 << 22 | 0o2500
        stepped = 0 << 30 | 6 << 24 | 1 << 22 | 0o2500
        code = words_from(START, ins(0o134, 3, THERE), ins(0o134, 4, THERE))
        given = numbers_of(CLEAR, *code, put(THERE, pointer), put(0o2500, 0o3000), put(0o2501, leading(0o2501)),
                           put(0o3000, 0o1234), pc(START), run(10), WHY, pc(-1), get(3), get(4), get(THERE))
        self.assertEqual(given[8:], [1, 2, START + 1, 0o34, 0, stepped])


class NotNamedTest(MachineTest):
    def test_every_op_that_is_not_named(self):
        not_named = [op for op in range(0o1000) if op not in NAMED]
        self.assertEqual(len(not_named), 0o133 + 0o40 + 2 + 0o100)
        for op in not_named:
            for ac in (0, 4, 9):
                heads, words = self.outcome(ins(op, ac, THERE), {ac: 5, THERE: 6}, [ac, THERE], 1, START, 6, ())
                self.assertEqual(heads, [0, 1, START, 6], oct(op))
                self.assertEqual(words, {ac: 5, THERE: 6}, oct(op))

    def test_every_named_op_is_done(self):
        for op in NAMED:
            words = {1: 5, THERE: NEVER}
            heads, words = self.outcome(ins(op, 0, THERE), words, [THERE], 1, START, 0, ())
            self.assertEqual(heads[:2], [1, 0], oct(op))

    def test_the_ends(self):
        for op in (0, 0o77, 0o100, 0o132, 0o140, 0o177, 0o247, 0o257, 0o700, 0o777):
            for ac in range(16):
                self.check_stopped(ins(op, ac, THERE), {ac: 5, THERE: 6})


class WholeTest(unittest.TestCase):
    def test_a_loop_that_is_left_by_its_own_condition(self):
        # 1 to 1000 summed up.
        code = words_from(START, ins(0o270, 3, 4), ins(0o367, 4, START), ins(0o202, 3, THERE), HALT)
        given = numbers_of(CLEAR, put(4, 1000), *code, pc(START), run(1000000), WHY, pc(-1), get(THERE), get(4))
        self.assertEqual(given[7:], [2001, 3, START + 3, 500500, 0])

    def test_loops_of_one_instruction(self):
        for op, a, done, then in ((0o367, 100, 100, 0), (0o365, 100, 101, 2 ** 36 - 1), (0o366, 100, 100, 0),
                                  (0o341, 2 ** 36 - 100, 100, 0), (0o343, 2 ** 36 - 100, 101, 1),
                                  (0o346, 2 ** 36 - 100, 100, 0), (0o253, w(0o777634, 5), 100, 105)):
            given = numbers_of(CLEAR, put(3, a), put(START, ins(op, 3, START)), put(START + 1, HALT), pc(START),
                               run(1000000), WHY, get(3), pc(-1))
            self.assertEqual(given[5:], [done, 3, then, START + 1], oct(op))

    def test_a_million(self):
        given = numbers_of(CLEAR, put(3, 1000000), put(START, ins(0o367, 3, START)), put(START + 1, HALT), pc(START),
                           run(1000000), WHY, get(3), pc(-1), run(1), WHY)
        self.assertEqual(given[5:], [1000000, 0, 0, START + 1, 0, 3])

    def test_one_less_than_a_million(self):
        given = numbers_of(CLEAR, put(3, 999999), put(START, ins(0o367, 3, START)), put(START + 1, HALT), pc(START),
                           run(1000000), WHY, get(3), pc(-1))
        self.assertEqual(given[5:], [999999, 3, 0, START + 1])

    def test_subroutines_within_one_another(self):
        # The factorial of 10: called for each number down to 1, multiplied on the way back.
        code = words_from(
            START,
            ins(0o260, 15, 0o1010), HALT, 0, 0, 0, 0, 0, 0,
            ins(0o323, 1, 0o1015), ins(0o261, 15, 1), ins(0o360, 1), ins(0o260, 15, 0o1010), ins(0o262, 15, 1),
            ins(0o327, 1, 0o1020), ins(0o201, 2, 1), ins(0o263, 15), ins(0o220, 2, 1), ins(0o263, 15))
        given = numbers_of(CLEAR, put(1, 10), put(15, w(0, 0o3000)), *code, pc(START), run(1000), WHY, pc(-1), get(2),
                           get(15), get(0o3001))
        self.assertEqual(given[-5:], [3, START + 1, 3628800, w(0, 0o3000), START + 1])

    def test_a_line_of_400_calls(self):
        calls = [CLEAR, put(START, ins(0o350, 3, THERE)), put(START + 1, ins(0o254, 0, START)), pc(START)]
        calls += [run(2), get(3), WHY, flags(-1)] * 99
        self.assertEqual(len(calls), 400)
        given = numbers_of(*calls)
        self.assertEqual(given[4:], [part for number in range(1, 100) for part in (2, number, 0, 0)])

    def test_what_is_handed_in_is_not_changed(self):
        calls = line(CLEAR, put(START, ins(0o350, 3, THERE)), pc(START), flags(3), run(5), WHY, get(3), flags(-1))
        before = list(calls)
        given = answers(calls)
        self.assertEqual(given, [1, 0, 1, 0, 1, 0, 1, 0, 1, 1, 1, 1, 1, 1, 1, 3])
        self.assertEqual(calls, before)
        self.assertEqual(answers(Refusing(calls)), given)

    def test_nothing_is_kept_for_another_line(self):
        answers(line(CLEAR, put(0, ins(0o210, 3, 0o100)), run(5), flags(15)))
        self.assertEqual(numbers_of(CLEAR, WHY, flags(-1), pc(-1), get(0), get(3), run(1), WHY), [0] * 7 + [1])

    def test_numbers_are_never_true_or_false(self):
        words = {1: 1, 3: HIGHEST, THERE: 1}
        puts = [put(place, word) for place, word in words.items()]
        for op in NAMED:
            for ac in (0, 1, 3):
                calls = [CLEAR, *puts, put(START, ins(op, ac, THERE)), pc(START), run(1), WHY, pc(-1), flags(-1)]
                given = answers(line(*calls, *[get(place) for place in range(16)], get(THERE), get(2)))
                self.assertEqual({type(number) for number in given}, {int}, oct(op))


if __name__ == "__main__":
    unittest.main()
