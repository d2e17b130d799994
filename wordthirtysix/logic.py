"""Words joined bit by bit, 0400 to 0477, and bits looked at and changed by a mask, 0600 to 0677."""

from wordthirtysix.places import keep, other_word
from wordthirtysix.words import WORD_BITS, halves_changed


def joined(kind, a, m):
    """Kind's bits say where a 1 comes out: 1 where both have one, 2 m alone, 4 a alone, 8 neither."""
    word = 0
    if kind & 1:
        word |= a & m
    if kind & 2:
        word |= m & ~a
    if kind & 4:
        word |= a & ~m
    if kind & 8:
        word |= WORD_BITS & ~(a | m)
    return word


def do_logic(state, op, ac, place):
    word = joined(op >> 2 & 15, state.words[ac], other_word(state, op, place))
    keep(state, op, ac, place, word)


def mask_of(state, op, place):
    mask = place
    if op & 0o10:
        mask = state.words[place]
    if op & 1:
        return halves_changed(mask)
    return mask


def passes_over(kind, common):
    if kind == 1:
        return common == 0
    if kind == 3:
        return common != 0
    return kind == 2


def do_mask(state, op, ac, place):
    mask = mask_of(state, op, place)
    a = state.words[ac]
    if passes_over(op >> 1 & 3, a & mask):
        state.pass_over()
    change = op >> 4 & 3
    if change == 1:
        state.words[ac] = a & ~mask
    elif change == 2:
        state.words[ac] = a ^ mask
    elif change == 3:
        state.words[ac] = a | mask
