"""Instructions done one by one: which op does what, and what stops a run."""

from wordthirtysix.conditions import do_condition
from wordthirtysix.halves import do_half
from wordthirtysix.jumps import do_link, do_stack, jump_by_flags, jump_with_halves_more, jump_with_zeros
from wordthirtysix.logic import do_logic, do_mask
from wordthirtysix.moves import do_move, exchange, move_block
from wordthirtysix.places import NOWHERE, place_of
from wordthirtysix.pointers import move_byte, step_pointer
from wordthirtysix.products import do_product
from wordthirtysix.shifts import do_shift, do_shift_of_two
from wordthirtysix.state import PLACES
from wordthirtysix.sums import do_sum

# What stops an instruction; NOTHING if it was done.
NOTHING = 0
NOT_NAMED = 1
LEADS_ON = 2
HALTED = 3

DO_WORD = 0o256
MOST_WITHIN = 1000


def do_byte(state, op, ac, place):
    """0133 to 0137; of the other ops below 0200, and of those above 0677, none is named."""
    if op == 0o133 and ac == 0:
        step_pointer(state, place)
        return NOTHING
    if 0o134 <= op <= 0o137:
        if move_byte(state, op, ac, place):
            return NOTHING
        return LEADS_ON
    return NOT_NAMED


def do_count(state, op, ac, place):
    """0240 to 0247."""
    if op == 0o243:
        jump_with_zeros(state, ac, place)
    elif op < 0o243:
        do_shift(state, op, ac, place)
    elif op < 0o247:
        do_shift_of_two(state, op, ac, place)
    else:
        return NOT_NAMED
    return NOTHING


def go_on(state, ac, place):
    """0254."""
    if ac == 0:
        state.pc = place
        return NOTHING
    if ac == 4:
        return HALTED
    return NOT_NAMED


def do_single(state, op, ac, place):
    """0250 to 0257, without DO_WORD."""
    if op == 0o254:
        return go_on(state, ac, place)
    if op == 0o250:
        exchange(state, ac, place)
    elif op == 0o251:
        move_block(state, ac, place)
    elif op <= 0o253:
        jump_with_halves_more(state, op, ac, place)
    elif op == 0o255:
        jump_by_flags(state, ac, place)
    else:
        return NOT_NAMED
    return NOTHING


def do_two_hundreds(state, op, ac, place):
    """0200 to 0277."""
    if op < 0o220:
        do_move(state, op, ac, place)
    elif op < 0o240:
        do_product(state, op, ac, place)
    elif op < 0o250:
        return do_count(state, op, ac, place)
    elif op < 0o260:
        return do_single(state, op, ac, place)
    elif op < 0o264:
        do_stack(state, op, ac, place)
    elif op < 0o270:
        do_link(state, op, ac, place)
    else:
        do_sum(state, op, ac, place)
    return NOTHING


def do_op(state, op, ac, place):
    hundreds = op >> 6
    if hundreds == 3:
        do_condition(state, op, ac, place)
    elif hundreds == 2:
        return do_two_hundreds(state, op, ac, place)
    elif hundreds == 5:
        do_half(state, op, ac, place)
    elif hundreds == 6:
        do_mask(state, op, ac, place)
    elif hundreds == 4:
        do_logic(state, op, ac, place)
    else:
        return do_byte(state, op, ac, place)
    return NOTHING


def do_instruction(state, word):
    """Does word as an instruction and answers what stopped it; then all but PC is as it was before."""
    words = state.words
    within = 0
    while within < MOST_WITHIN:
        place = place_of(words, word)
        if place == NOWHERE:
            return LEADS_ON
        op = word >> 27
        if op != DO_WORD:
            return do_op(state, op, word >> 23 & 15, place)
        word = words[place]
        within += 1
    return LEADS_ON


def run(state, most):
    """Does up to most instructions, till one is stopped; answers how many were done."""
    words = state.words
    state.why = NOTHING
    done = 0
    while done < most:
        at = state.pc
        state.pc = (at + 1) % PLACES
        why = do_instruction(state, words[at])
        if why != NOTHING:
            state.pc = at
            state.why = why
            return done
        done += 1
    return done
