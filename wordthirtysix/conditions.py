"""Comparisons, and words one more or one less, with a condition: 0300 to 0377."""

from wordthirtysix.sums import sum_of
from wordthirtysix.words import WORD_BITS, with_sign


def holds(op, number):
    """Whether the condition of op's last three bits holds: 1 below 0, 2 is 0, 3 either; with 4 the opposite."""
    found = False
    if number < 0:
        found = op & 1 != 0
    elif number == 0:
        found = op & 2 != 0
    return found != (op & 4 != 0)


def stepped(state, op, word):
    step = op >> 4 & 3
    if step == 2:
        return sum_of(state, word, 1, 0)
    if step == 3:
        return sum_of(state, word, WORD_BITS, 0)
    return word


def compare(state, op, ac, place):
    other = place
    if op >= 0o310:
        other = with_sign(state.words[place])
    if holds(op, with_sign(state.words[ac]) - other):
        state.pass_over()


def jump(state, op, ac, place):
    word = stepped(state, op, state.words[ac])
    state.words[ac] = word
    if holds(op, with_sign(word)):
        state.pc = place


def skip(state, op, ac, place):
    word = stepped(state, op, state.words[place])
    state.words[place] = word
    if ac != 0:
        state.words[ac] = word
    if holds(op, with_sign(word)):
        state.pass_over()


def do_condition(state, op, ac, place):
    if op < 0o320:
        compare(state, op, ac, place)
    elif op & 0o10:
        skip(state, op, ac, place)
    else:
        jump(state, op, ac, place)
