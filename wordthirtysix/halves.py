"""Halves moved from word to word: 0500 to 0577."""

from wordthirtysix.places import keep_moved, other_word
from wordthirtysix.words import HALF_BITS, halves_changed

HALF_SIGN = 0o400000


def other_half(op, half, kept):
    """What stands beside the moved half then."""
    kind = op >> 3 & 3
    if kind == 0:
        return kept
    if kind == 2 or (kind == 3 and half & HALF_SIGN):
        return HALF_BITS
    return 0


def with_half(op, source, goal):
    if op & 4:
        source = halves_changed(source)
    if op & 0o40:
        half = source & HALF_BITS
        return other_half(op, half, goal >> 18) << 18 | half
    half = source >> 18
    return half << 18 | other_half(op, half, goal & HALF_BITS)


def do_half(state, op, ac, place):
    way = op & 3
    source = other_word(state, op, place)
    goal = state.words[ac]
    if way == 2:
        source = goal
    if way >= 2:
        goal = state.words[place]
    keep_moved(state, op, ac, place, with_half(op, source, goal))
