"""Instructions that lead on elsewhere, and the state word: 0243, 0252, 0253, 0255 and 0260 to 0267."""

from wordthirtysix.state import PLACES
from wordthirtysix.words import HALF_BITS, SIGN_BIT, after, halves_moved

# V, C0 and C1 among the flags, as A's bits of 0255 name them.
NAMED_FLAGS = 14


def jump_with_zeros(state, ac, place):
    word = state.words[ac]
    if word == 0:
        state.words[after(ac)] = 0
        return
    state.words[after(ac)] = 36 - word.bit_length()
    state.pc = place


def jump_with_halves_more(state, op, ac, place):
    word = halves_moved(state.words[ac], 1)
    state.words[ac] = word
    below = word & SIGN_BIT != 0
    if below == (op == 0o253):
        state.pc = place


def jump_by_flags(state, ac, place):
    named = ac & NAMED_FLAGS
    if state.flags & named:
        state.pc = place
        state.flags -= state.flags & named


def state_word(state):
    return state.flags >> 1 << 33 | (state.flags & 1) << 23 | state.pc


def push(state, ac, word):
    stack = halves_moved(state.words[ac], 1)
    state.words[ac] = stack
    state.words[stack & HALF_BITS] = word


def pop_to(state, ac, place):
    stack = state.words[ac]
    state.words[place] = state.words[stack & HALF_BITS]
    state.words[ac] = halves_moved(stack, -1)


def pop_to_pc(state, ac):
    stack = state.words[ac]
    state.pc = state.words[stack & HALF_BITS] & HALF_BITS
    state.words[ac] = halves_moved(stack, -1)


def go_with_a_kept(state, ac, place):
    state.words[place] = state.words[ac]
    state.words[ac] = place << 18 | state.pc
    state.pc = (place + 1) % PLACES


def do_stack(state, op, ac, place):
    if op == 0o260:
        push(state, ac, state_word(state))
        state.pc = place
    elif op == 0o261:
        push(state, ac, state.words[place])
    elif op == 0o262:
        pop_to(state, ac, place)
    else:
        pop_to_pc(state, ac)


def do_link(state, op, ac, place):
    if op == 0o264:
        state.words[place] = state_word(state)
        state.pc = (place + 1) % PLACES
    elif op == 0o265:
        state.words[ac] = state_word(state)
        state.pc = place
    elif op == 0o266:
        go_with_a_kept(state, ac, place)
    else:
        state.words[ac] = state.words[state.words[ac] >> 18]
        state.pc = place
