"""The machine as it stands, and the cards of one run."""

from drumback.orders import CARD_SIZE
from drumback.words import DRUM_SIZE, is_long, lower_twenty


class Machine:
    """a, d, over, t, n, state and drum are what the document calls A, D, over, T, N, state and the drum."""

    def __init__(self, start):
        self.renew(start)

    def renew(self, start):
        self.drum = [0] * DRUM_SIZE
        self.n = start
        self.rewind()

    def rewind(self):
        self.a = 0
        self.d = 0
        self.over = 0
        self.t = 0
        self.state = 0

    def keep(self, number):
        """A becomes the number, or what is kept of it where it is no long."""
        if is_long(number):
            self.a = number
        else:
            self.over = 1
            self.a = lower_twenty(number)


class Deck:
    """The cards that lie ready for one run, and the words that it punches."""

    def __init__(self, words):
        self.words = words
        self.cards_read = 0
        self.punched = []

    def has_card(self):
        return self.cards_read * CARD_SIZE < len(self.words)

    def take_card(self):
        first = self.cards_read * CARD_SIZE
        self.cards_read += 1
        return self.words[first:first + CARD_SIZE]
