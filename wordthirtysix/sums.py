"""Sums and differences with their flags: 0270 to 0277."""

from wordthirtysix.places import keep, other_word
from wordthirtysix.state import C0, C1, V
from wordthirtysix.words import LOW_BITS, WORD_BITS


def sum_of(state, x, y, carry):
    total = x + y + carry
    carries_out = total >> 36
    low_carries_out = ((x & LOW_BITS) + (y & LOW_BITS) + carry) >> 35
    if carries_out != 0:
        state.flags |= C0
    if low_carries_out != 0:
        state.flags |= C1
    if carries_out != low_carries_out:
        state.flags |= V
    return total & WORD_BITS


def difference_of(state, x, y):
    return sum_of(state, x, y ^ WORD_BITS, 1)


def do_sum(state, op, ac, place):
    a = state.words[ac]
    other = other_word(state, op, place)
    if op < 0o274:
        word = sum_of(state, a, other, 0)
    else:
        word = difference_of(state, a, other)
    keep(state, op, ac, place, word)
