"""The place that a word tells by its I, X and Y, and the four ways from there and to there."""

from wordthirtysix.words import HALF_BITS, after

NOWHERE = -1

INDIRECT_BIT = 0o20000000
LONGEST = 1000


def place_of(words, word):
    """The place that word tells; NOWHERE if LONGEST words with I 1, it among them, lead on and on."""
    count = 0
    while count < LONGEST:
        place = word & HALF_BITS
        index = word >> 18 & 15
        if index != 0:
            place = (place + words[index]) & HALF_BITS
        if word & INDIRECT_BIT == 0:
            return place
        word = words[place]
        count += 1
    return NOWHERE


def other_word(state, op, place):
    """What an instruction of four ways takes beside a: the word 0,,E in way 1, else e."""
    if op & 3 == 1:
        return place
    return state.words[place]


def keep(state, op, ac, place, word):
    way = op & 3
    if way >= 2:
        state.words[place] = word
    if way != 2:
        state.words[ac] = word


def keep_two(state, op, ac, place, first, second):
    keep(state, op, ac, place, first)
    if op & 3 != 2:
        state.words[after(ac)] = second


def keep_moved(state, op, ac, place, word):
    """As keep, but with A 0 way 3 keeps it at E alone."""
    way = op & 3
    if way >= 2:
        state.words[place] = word
    if way < 2 or (way == 3 and ac != 0):
        state.words[ac] = word
