"""Words and pairs of words moved or turned by a count: 0240 to 0246 without 0243."""

from wordthirtysix.state import V
from wordthirtysix.words import LOW_BITS, SIGN_BIT, WORD_BITS, after, fits_word, number_of_two, with_sign

COUNT_BITS = 0o377
COUNT_SIGN = 0o400000

# 2^70: a number of two words is below it, and not below 0 less it.
TWO_WORDS_LIMIT = 0o200000000000000000000000


def count_of(place):
    """The count that E tells: to the left, or to the right if it is below 0."""
    count = place & COUNT_BITS
    if place & COUNT_SIGN:
        return count - COUNT_BITS - 1
    return count


def moved(number, count):
    if count < 0:
        return number >> -count
    return number << count


def turned(bits, count, size):
    steps = count % size
    ones = (1 << size) - 1
    return (bits << steps | bits >> (size - steps)) & ones


def move_number(state, ac, count):
    sign = state.words[ac] & SIGN_BIT
    number = moved(with_sign(state.words[ac]), count)
    if not fits_word(number):
        state.flags |= V
    state.words[ac] = sign | number & LOW_BITS


def move_two_as_number(state, ac, count):
    words = state.words
    sign = words[ac] & SIGN_BIT
    number = moved(number_of_two(words[ac], words[after(ac)]), count)
    if not -TWO_WORDS_LIMIT <= number < TWO_WORDS_LIMIT:
        state.flags |= V
    words[ac] = sign | number >> 35 & LOW_BITS
    words[after(ac)] = sign | number & LOW_BITS


def do_shift(state, op, ac, place):
    count = count_of(place)
    if op == 0o240:
        move_number(state, ac, count)
    elif op == 0o241:
        state.words[ac] = turned(state.words[ac], count, 36)
    else:
        state.words[ac] = moved(state.words[ac], count) & WORD_BITS


def do_shift_of_two(state, op, ac, place):
    count = count_of(place)
    if op == 0o244:
        move_two_as_number(state, ac, count)
        return
    words = state.words
    pair = words[ac] << 36 | words[after(ac)]
    if op == 0o245:
        pair = turned(pair, count, 72)
    else:
        pair = moved(pair, count)
    words[ac] = pair >> 36 & WORD_BITS
    words[after(ac)] = pair & WORD_BITS
