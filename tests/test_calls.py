"""The calls tn_clear, tn_put, tn_get, tn_pc and tn_flags, and the form of answers(calls)."""

import unittest

from helper import CLEAR, WHY, Refusing, flags, get, line, numbers_of, pc, put, run

from wordthirtysix.machine import answers
from wordthirtysix.state import State

LAST_PLACE = 262143
TOP_WORD = 2 ** 36 - 1
INT_LOW = -2147483648
INT_HIGH = 2147483647
X_HIGH = 18446744073709551615

PLACES = [0, 1, 15, 16, 4096, 262142, LAST_PLACE]
NO_PLACES = [INT_LOW, -262144, -2, -1, 262144, 262145, 524288, INT_HIGH]
WORDS = [0, 1, 2 ** 18, 2 ** 35 - 1, 2 ** 35, 2 ** 36 - 2, TOP_WORD]
NO_WORDS = [2 ** 36, 2 ** 36 + 1, 2 ** 37, 2 ** 63, X_HIGH]


class ClearTest(unittest.TestCase):
    def test_answers_0(self):
        self.assertEqual(numbers_of(CLEAR), [0])
        self.assertEqual(numbers_of(CLEAR, CLEAR, CLEAR), [0, 0, 0])

    def test_words_and_pc_are_0_at_first(self):
        given = numbers_of(CLEAR, pc(-1), *[get(at) for at in PLACES])
        self.assertEqual(given, [0] * (2 + len(PLACES)))

    def test_words_and_pc_are_0_when_it_comes_again(self):
        puts = [put(at, TOP_WORD) for at in PLACES]
        gets = [get(at) for at in PLACES]
        given = numbers_of(CLEAR, *puts, pc(LAST_PLACE), CLEAR, pc(-1), *gets)
        self.assertEqual(given, [0] * len(given))

    def test_words_can_be_put_after_it_came_again(self):
        given = numbers_of(CLEAR, put(16, 5), pc(9), CLEAR, put(17, 6), get(16), get(17), pc(7), pc(-1))
        self.assertEqual(given, [0, 0, 0, 0, 0, 0, 6, 0, 7])

    def test_flags_and_why_are_0(self):
        state = State()
        self.assertEqual((state.flags, state.why), (0, 0))
        state.flags = 15
        state.why = 3
        state.reset()
        self.assertEqual((state.flags, state.why), (0, 0))

    def test_flags_and_why_are_0_at_first(self):
        self.assertEqual(numbers_of(CLEAR, flags(-1), WHY), [0, 0, 0])

    def test_all_is_0_behind_a_run(self):
        # The word 0 is no instruction: the run is stopped by 1 at its first.
        self.assertEqual(
            numbers_of(CLEAR, put(16, 5), pc(20), flags(15), run(3), WHY, CLEAR, WHY, flags(-1), pc(-1), get(16)),
            [0, 0, 0, 0, 0, 1, 0, 0, 0, 0, 0])


class PutAndGetTest(unittest.TestCase):
    def test_every_word_at_every_edge_is_kept(self):
        for at in PLACES:
            for x in WORDS:
                with self.subTest(at=at, x=x):
                    self.assertEqual(numbers_of(CLEAR, put(at, x), get(at), get(at)), [0, 0, x, x])

    def test_each_place_has_its_own_word(self):
        puts = [put(at, at + 7) for at in PLACES]
        gets = [get(at) for at in PLACES]
        given = numbers_of(CLEAR, *puts, *gets)
        self.assertEqual(given, [0] * (1 + len(PLACES)) + [at + 7 for at in PLACES])

    def test_the_later_word_stands(self):
        self.assertEqual(numbers_of(CLEAR, put(15, 3), put(15, 4), get(15)), [0, 0, 0, 4])
        self.assertEqual(numbers_of(CLEAR, put(15, 3), put(15, 0), get(15)), [0, 0, 0, 0])

    def test_put_where_no_place_is(self):
        puts = [put(at, 99) for at in PLACES]
        gets = [get(at) for at in PLACES]
        for at in NO_PLACES:
            with self.subTest(at=at):
                given = numbers_of(CLEAR, *puts, pc(5), put(at, 1), pc(-1), *gets)
                self.assertEqual(given[len(PLACES) + 1:], [0, -1, 5] + [99] * len(PLACES))

    def test_put_of_no_word(self):
        for at in PLACES:
            for x in NO_WORDS:
                with self.subTest(at=at, x=x):
                    given = numbers_of(CLEAR, put(at, 77), pc(5), put(at, x), get(at), pc(-1))
                    self.assertEqual(given, [0, 0, 0, -1, 77, 5])

    def test_put_of_no_word_where_none_was_put(self):
        for x in NO_WORDS:
            with self.subTest(x=x):
                self.assertEqual(numbers_of(CLEAR, put(16, x), get(16)), [0, -1, 0])

    def test_put_of_no_word_where_no_place_is(self):
        for at in NO_PLACES:
            with self.subTest(at=at):
                self.assertEqual(numbers_of(CLEAR, put(at, X_HIGH)), [0, -1])

    def test_get_where_no_place_is(self):
        puts = [put(at, 99) for at in PLACES]
        gets = [get(at) for at in PLACES]
        for at in NO_PLACES:
            with self.subTest(at=at):
                given = numbers_of(CLEAR, *puts, pc(5), get(at), pc(-1), *gets)
                self.assertEqual(given[len(PLACES) + 1:], [0, -1, 5] + [99] * len(PLACES))


class PcTest(unittest.TestCase):
    def test_it_becomes_at(self):
        for at in PLACES:
            with self.subTest(at=at):
                self.assertEqual(numbers_of(CLEAR, pc(33), pc(at), pc(-1), pc(-1)), [0, 0, 33, at, at])

    def test_one_after_another(self):
        self.assertEqual(numbers_of(CLEAR, pc(0), pc(LAST_PLACE), pc(0), pc(-1)), [0, 0, 0, LAST_PLACE, 0])

    def test_minus_one_stays(self):
        self.assertEqual(numbers_of(CLEAR, pc(-1), pc(-1)), [0, 0, 0])
        self.assertEqual(numbers_of(CLEAR, pc(LAST_PLACE), pc(-1), pc(-1)), [0, 0, LAST_PLACE, LAST_PLACE])

    def test_no_such_place(self):
        for at in [at for at in NO_PLACES if at != -1]:
            with self.subTest(at=at):
                given = numbers_of(CLEAR, put(5, 8), pc(5), pc(at), pc(-1), get(5))
                self.assertEqual(given, [0, 0, 0, -1, 5, 8])

    def test_words_are_as_they_were(self):
        self.assertEqual(numbers_of(CLEAR, put(0, 9), pc(0), pc(3), get(0), get(3)), [0, 0, 0, 0, 9, 0])


class FlagsTest(unittest.TestCase):
    def test_they_become_x(self):
        for x in range(16):
            with self.subTest(x=x):
                self.assertEqual(numbers_of(CLEAR, flags(6), flags(x), flags(-1), flags(-1)), [0, 0, 6, x, x])

    def test_one_after_another(self):
        self.assertEqual(numbers_of(CLEAR, flags(0), flags(15), flags(0), flags(9), flags(-1)), [0, 0, 0, 15, 0, 9])

    def test_minus_one_stays(self):
        self.assertEqual(numbers_of(CLEAR, flags(-1), flags(-1)), [0, 0, 0])
        self.assertEqual(numbers_of(CLEAR, flags(15), flags(-1), flags(-1)), [0, 0, 15, 15])

    def test_no_such_flags(self):
        for x in [INT_LOW, -16, -3, -2, 16, 17, 31, 32, 255, INT_HIGH]:
            for before in (0, 5, 15):
                with self.subTest(x=x, before=before):
                    self.assertEqual(
                        numbers_of(CLEAR, flags(before), pc(7), put(5, 8), flags(x), flags(-1), pc(-1), get(5)),
                        [0, 0, 0, 0, -1, before, 7, 8])

    def test_words_and_pc_are_as_they_were(self):
        self.assertEqual(numbers_of(CLEAR, put(0, 9), pc(3), flags(15), get(0), get(15), pc(-1)), [0, 0, 0, 0, 9, 0, 3])


class InterfaceTest(unittest.TestCase):
    def test_count_and_number_for_each_call_in_order(self):
        calls = [1, 2, 15, 8, 3, 15, 3, -1, 4, 12, 2, 0, 2 ** 36, 4, -1, 4, -2]
        given = answers(calls)
        self.assertEqual(given, [1, 0, 1, 0, 1, 8, 1, -1, 1, 0, 1, -1, 1, 12, 1, -1])
        self.assertIs(list, type(given))
        self.assertEqual({type(number) for number in given}, {int})

    def test_numbers_that_look_like_calls(self):
        self.assertEqual(numbers_of(CLEAR, put(1, 1), put(3, 4), get(3), get(1), pc(1), pc(4), pc(-1)),
                         [0, 0, 0, 4, 1, 0, 1, 4])

    def test_a_line_of_one_call(self):
        self.assertEqual(answers([1]), [1, 0])

    def test_a_line_of_400_calls(self):
        puts = [put(place * 1000, place + 1) for place in range(199)]
        gets = [get(place * 1000) for place in range(199)]
        given = answers(line(CLEAR, *puts, *gets, pc(-1)))
        numbers = [0] * 200 + [place + 1 for place in range(199)] + [0]
        self.assertEqual(given, [part for number in numbers for part in (1, number)])

    def test_a_line_of_400_clears(self):
        self.assertEqual(answers([1] * 400), [1, 0] * 400)

    def test_what_is_handed_in_is_not_changed(self):
        calls = line(CLEAR, put(3, 5), put(-1, 5), pc(7), CLEAR, get(3), pc(-1))
        before = list(calls)
        given = answers(calls)
        self.assertEqual(calls, before)
        self.assertEqual(answers(Refusing(calls)), given)

    def test_two_times_one_after_another(self):
        calls = line(CLEAR, get(3), pc(-1), put(3, 5), pc(7), get(3), pc(-1))
        first = answers(calls)
        self.assertEqual(first, [1, 0, 1, 0, 1, 0, 1, 0, 1, 0, 1, 5, 1, 7])
        self.assertEqual(answers(calls), first)

    def test_nothing_is_kept_for_another_line(self):
        answers(line(CLEAR, put(3, 5), pc(7)))
        self.assertEqual(numbers_of(CLEAR, get(3), pc(-1)), [0, 0, 0])

    def test_what_is_given_back_is_new_each_time(self):
        first = answers([1])
        first.append(9)
        self.assertEqual(answers([1]), [1, 0])


if __name__ == "__main__":
    unittest.main()
