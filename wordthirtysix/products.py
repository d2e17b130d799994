"""Products and quotients: 0220 to 0237."""

from wordthirtysix.places import keep, keep_two, other_word
from wordthirtysix.state import ND, V
from wordthirtysix.words import WORD_BITS, after, first_of_two, fits_word, number_of_two, second_of_two, with_sign

# -2^35 times itself: the one product that two words can't hold.
TOO_GREAT = 0o200000000000000000000000


def towards_0(number, divisor):
    size = abs(number) // abs(divisor)
    if (number < 0) == (divisor < 0):
        return size
    return -size


def multiply(state, op, ac, place, number):
    product = with_sign(state.words[ac]) * number
    if not fits_word(product):
        state.flags |= V
    keep(state, op, ac, place, product & WORD_BITS)


def multiply_to_two(state, op, ac, place, number):
    product = with_sign(state.words[ac]) * number
    if product == TOO_GREAT:
        state.flags |= V
    keep_two(state, op, ac, place, first_of_two(product), second_of_two(product))


def divide(state, op, ac, place, number, divisor):
    if divisor == 0:
        state.flags |= V | ND
        return
    quotient = towards_0(number, divisor)
    if not fits_word(quotient):
        state.flags |= V | ND
        return
    rest = number - quotient * divisor
    keep_two(state, op, ac, place, quotient & WORD_BITS, rest & WORD_BITS)


def do_product(state, op, ac, place):
    kind = op >> 2 & 3
    number = with_sign(other_word(state, op, place))
    if kind == 0:
        multiply(state, op, ac, place, number)
    elif kind == 1:
        multiply_to_two(state, op, ac, place, number)
    elif kind == 2:
        divide(state, op, ac, place, with_sign(state.words[ac]), number)
    else:
        divide(state, op, ac, place, number_of_two(state.words[ac], state.words[after(ac)]), number)
