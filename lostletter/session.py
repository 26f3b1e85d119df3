"""What the calls on one object are made on."""

from lostletter.history import History
from lostletter.words import weights

FEWEST_LETTERS = 2
MOST_LETTERS = 10


def can_start(n):
    """Whether words may have n letters."""
    return FEWEST_LETTERS <= n and n <= MOST_LETTERS


class Session:
    """How many letters words have, their weights, and the code with its changes."""

    def __init__(self):
        self.begin(FEWEST_LETTERS)

    def begin(self, n):
        """Words of n letters, no code, no changes."""
        self.n = n
        self.weights = weights(n)
        self.history = History()

    def has_word(self, word, more):
        """Whether there is such a word of n letters and as many more as told."""
        return word < (1 << (self.n + more))

    def has_class(self, a):
        """Whether there is a class a."""
        return a <= self.n

    def class_of(self, word):
        """Of which class the word is."""
        return self.weights[word] % (self.n + 1)

    def words_of_class(self, a):
        """All words of the class a, rising."""
        return tuple([word for word in range(len(self.weights)) if self.class_of(word) == a])
