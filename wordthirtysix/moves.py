"""Whole words moved: 0200 to 0217, and 0250, 0251."""

from wordthirtysix.places import keep_moved, other_word
from wordthirtysix.state import PLACES
from wordthirtysix.sums import difference_of
from wordthirtysix.words import HALF_BITS, SIGN_BIT, halves_changed


def changed(state, op, word):
    kind = op >> 2 & 3
    if kind == 0:
        return word
    if kind == 1:
        return halves_changed(word)
    if kind == 2 or word & SIGN_BIT:
        return difference_of(state, 0, word)
    return word


def do_move(state, op, ac, place):
    if op & 3 == 2:
        word = state.words[ac]
    else:
        word = other_word(state, op, place)
    keep_moved(state, op, ac, place, changed(state, op, word))


def exchange(state, ac, place):
    words = state.words
    word = words[ac]
    words[ac] = words[place]
    words[place] = word


def move_block(state, ac, place):
    words = state.words
    source = words[ac] >> 18
    goal = words[ac] & HALF_BITS
    # One word goes in any case, also where the first goal is above E.
    end = max(place, goal) + 1
    if source > goal:
        many = min(end - goal, PLACES - source)
        words[goal:goal + many] = words[source:source + many]
        # Behind the last place the source goes on at place 0, and then it is below the goal.
        source = 0
        goal += many
    # A source below the goal reads what was brought before: the words between them come again and again,
    # so each piece may be as long as all that stand there by now.
    while source < goal < end:
        many = min(end - goal, goal - source)
        words[goal:goal + many] = words[source:source + many]
        goal += many
