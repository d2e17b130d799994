"""Words of thirty-six bits, their halves, and numbers as one or two of them."""

WORD_BITS = 0o777777777777
SIGN_BIT = 0o400000000000
LOW_BITS = 0o377777777777
HALF_BITS = 0o777777


def with_sign(word):
    """The number that word is in two's complement."""
    if word & SIGN_BIT:
        return word - WORD_BITS - 1
    return word


def fits_word(number):
    return -SIGN_BIT <= number < SIGN_BIT


def halves_changed(word):
    return (word & HALF_BITS) << 18 | word >> 18


def halves_moved(word, step):
    """Both halves of word with step added, each by itself: no carry goes from the right one to the left one."""
    left = ((word >> 18) + step) & HALF_BITS
    right = (word + step) & HALF_BITS
    return left << 18 | right


def number_of_two(first, second):
    return (with_sign(first) << 35) + (second & LOW_BITS)


def first_of_two(number):
    return number >> 35 & WORD_BITS


def second_of_two(number):
    low = number & LOW_BITS
    if number < 0:
        return SIGN_BIT | low
    return low


def after(ac):
    """Which of the registers comes after ac; behind the last comes the first."""
    return (ac + 1) & 15
