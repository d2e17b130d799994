"""How the tests write lines of calls and instructions, and look at what one instruction changes."""

import unittest

from wordthirtysix.machine import answers

CLEAR = [1]
WHY = [7]

LAST_PLACE = 0o777777
ONES = 0o777777777777
LOWEST = 0o400000000000
HIGHEST = 0o377777777777

V = 8
C0 = 4
C1 = 2
ND = 1

# Where the looked-at instruction stands, and a place away from it and from the registers.
START = 0o1000
THERE = 0o2000


def put(at, x):
    return [2, at, x]


def get(at):
    return [3, at]


def pc(at):
    return [4, at]


def flags(x):
    return [5, x]


def run(n):
    return [6, n]


def line(*calls):
    return [number for call in calls for number in call]


def numbers_of(*calls):
    """The answers of the calls, the counts before them taken out (each must be 1)."""
    numbers = answers(line(*calls))
    if numbers[0::2] != [1] * len(calls):
        raise AssertionError(f"counts of {numbers!r}")
    return numbers[1::2]


def w(left, right):
    """The word left,,right."""
    return left << 18 | right


def ins(op, ac=0, y=0, x=0, i=0):
    return op << 27 | ac << 23 | i << 22 | x << 18 | y


def leading(y, x=0):
    """A word with I 1 that leads on."""
    return ins(0, 0, y, x, 1)


def minus(number):
    """The word of 0 less number."""
    return 2 ** 36 - number


def rows_of_words(first, count, word):
    """Calls that leave word, word + 1 and so on at count places from first: more than a line could put by calls."""
    loop = 0o500
    return [
        put(1, w(2 ** 18 - count, first)), put(2, word),
        put(loop, ins(0o202, 2, 0, 1)), put(loop + 1, ins(0o340, 2)), put(loop + 2, ins(0o253, 1, loop)),
        pc(loop), run(3 * count), put(1, 0), put(2, 0), flags(0),
    ]


class Refusing(list):
    """A list that can be read and not changed."""

    def refuse(self, *args, **kwargs):
        raise AssertionError("the list that was handed in is changed")

    __setitem__ = __delitem__ = __iadd__ = __imul__ = refuse
    append = clear = extend = insert = pop = remove = reverse = sort = refuse


class MachineTest(unittest.TestCase):
    def outcome(self, code, before, places, n, at, flags_before, prepare):
        puts = [put(place, word) for place, word in before.items() if word != 0]
        start = [CLEAR, *prepare, *puts, put(at, code), pc(at), flags(flags_before)]
        calls = [*start, run(n), WHY, pc(-1), flags(-1), *[get(place) for place in places]]
        self.assertLessEqual(len(calls), 400)
        numbers = numbers_of(*calls)[len(start):]
        for number in numbers:
            self.assertIs(type(number), int)
        return numbers[:4], dict(zip(places, numbers[4:]))

    def check(self, code, before=None, after=None, goes=None, flag=0, had=None, at=START, prepare=()):
        """Done as the one instruction: words as before but for after; then PC is goes, the next one if it's None.

        flag: the flags that it sets. had: the flags before it (if it's None: none of them, then all of them).
        """
        before = {at: code, **(before or {})}
        expected = {**dict.fromkeys(range(16), 0), **before, **(after or {})}
        goes = (at + 1) % 262144 if goes is None else goes
        for flags_before in (0, 15) if had is None else (had,):
            with self.subTest(op=oct(code >> 27), ac=code >> 23 & 15, flags_before=flags_before):
                heads, words = self.outcome(before[at], before, list(expected), 1, at, flags_before, prepare)
                self.assertEqual(heads, [1, 0, goes, flags_before | flag])
                self.assertEqual(self.octal(words), self.octal(expected))

    def check_stopped(self, code, before=None, why=1, at=START, prepare=()):
        """Stopped by why, with all as before."""
        before = {**dict.fromkeys(range(16), 0), at: code, **(before or {})}
        for flags_before in (0, 15, 9, 6):
            with self.subTest(op=oct(code >> 27), ac=code >> 23 & 15, flags_before=flags_before):
                heads, words = self.outcome(before[at], before, list(before), 1, at, flags_before, prepare)
                self.assertEqual(heads, [0, why, at, flags_before])
                self.assertEqual(self.octal(words), self.octal(before))

    def octal(self, words):
        return {oct(place): oct(word) for place, word in words.items()}
