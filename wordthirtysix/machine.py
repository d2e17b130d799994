"""The calls on the machine: a list of calls in, the list of their answers out."""

from wordthirtysix.instructions import run
from wordthirtysix.state import PLACES, WORD_LIMIT, State

CLEAR = 1
PUT = 2
GET = 3
MOVE_PC = 4
CHANGE_FLAGS = 5
RUN = 6

# By a call's number: how many whole numbers stand behind it.
NUMBERS_BEHIND = {1: 0, 2: 2, 3: 1, 4: 1, 5: 1, 6: 1, 7: 0}

DONE = 0
REFUSED = -1
STAYS = -1

FLAGS_LIMIT = 16
MOST_INSTRUCTIONS = 1000000


def is_place(at):
    return 0 <= at < PLACES


def clear_all(state):
    state.reset()
    return DONE


def put_word(state, at, x):
    if not is_place(at) or x >= WORD_LIMIT:
        return REFUSED
    state.words[at] = x
    return DONE


def get_word(state, at):
    if not is_place(at):
        return REFUSED
    return state.words[at]


def move_pc(state, at):
    before = state.pc
    if at == STAYS:
        return before
    if not is_place(at):
        return REFUSED
    state.pc = at
    return before


def change_flags(state, x):
    before = state.flags
    if x == STAYS:
        return before
    if not 0 <= x < FLAGS_LIMIT:
        return REFUSED
    state.flags = x
    return before


def run_some(state, n):
    if not 0 <= n <= MOST_INSTRUCTIONS:
        return REFUSED
    return run(state, n)


def answer_call(state, call, numbers):
    if call == CLEAR:
        return clear_all(state)
    if call == PUT:
        return put_word(state, numbers[0], numbers[1])
    if call == GET:
        return get_word(state, numbers[0])
    if call == MOVE_PC:
        return move_pc(state, numbers[0])
    if call == CHANGE_FLAGS:
        return change_flags(state, numbers[0])
    if call == RUN:
        return run_some(state, numbers[0])
    return state.why


def answers(calls):
    """For each call in order: how many numbers it answers (always one), and that number."""
    state = State()
    given = []
    start = 0
    while start < len(calls):
        call = calls[start]
        end = start + 1 + NUMBERS_BEHIND[call]
        given.append(1)
        given.append(answer_call(state, call, calls[start + 1:end]))
        start = end
    return given
