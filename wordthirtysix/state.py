"""What the machine keeps from one call to the next."""

PLACES = 262144
WORD_LIMIT = 68719476736


class State:
    """The words, PC, the flags, and what stopped the last run."""

    def __init__(self):
        self.reset()

    def reset(self):
        # Only words that were put are held, so that clearing costs the same however often it comes.
        self.words = {}
        self.pc = 0
        self.flags = 0
        self.why = 0

    def word_at(self, place):
        return self.words.get(place, 0)

    def keep_word(self, place, word):
        self.words[place] = word
