"""What the machine keeps from one call to the next."""

PLACES = 262144
WORD_LIMIT = 68719476736

# The flags as bits of one number.
V = 8
C0 = 4
C1 = 2
ND = 1


class State:
    """The words, PC, the flags, and what stopped the last run."""

    def __init__(self):
        # Before the first tn_clear there's nothing: it brings the words.
        self.words = []
        self.pc = 0
        self.flags = 0
        self.why = 0

    def reset(self):
        self.words = [0] * PLACES
        self.pc = 0
        self.flags = 0
        self.why = 0

    def pass_over(self):
        """The instruction at PC is not done, but the one behind it."""
        self.pc = (self.pc + 1) % PLACES
