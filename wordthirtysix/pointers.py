"""Bytes of any size by pointers: 0133 to 0137."""

from wordthirtysix.places import NOWHERE, place_of
from wordthirtysix.words import HALF_BITS, WORD_BITS

# All of a pointer but p and Y.
MIDDLE_BITS = 0o7777000000


def shift_of(pointer):
    return pointer >> 30


def size_of(pointer):
    return pointer >> 24 & 63


def next_pointer(pointer):
    shift = shift_of(pointer)
    size = size_of(pointer)
    if size <= shift:
        return pointer - (size << 30)
    return max(36 - size, 0) << 30 | pointer & MIDDLE_BITS | (pointer + 1) & HALF_BITS


def ones_of(pointer):
    return (1 << min(size_of(pointer), 36)) - 1


def load_byte(words, ac, pointer, at):
    words[ac] = words[at] >> shift_of(pointer) & ones_of(pointer)


def deposit_byte(words, ac, pointer, at):
    shift = shift_of(pointer)
    field = ones_of(pointer) << shift & WORD_BITS
    words[at] = words[at] & ~field | words[ac] << shift & field


def step_pointer(state, place):
    state.words[place] = next_pointer(state.words[place])


def move_byte(state, op, ac, place):
    """Whether it was done: nothing is, if the pointer's place leads on and on."""
    words = state.words
    before = words[place]
    if op & 1 == 0:
        # The next pointer stands there before its place is told: the way to that place may lead over this word.
        step_pointer(state, place)
    pointer = words[place]
    at = place_of(words, pointer)
    if at == NOWHERE:
        words[place] = before
        return False
    if op < 0o136:
        load_byte(words, ac, pointer, at)
    else:
        deposit_byte(words, ac, pointer, at)
    return True
