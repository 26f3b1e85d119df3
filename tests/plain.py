"""The document once more, over texts of letters and by trying all, for the tests to hold the program against.

It is written apart from the program and shares nothing with it. `split` parts what
`answers` gives back into one list a call; `play` answers calls by this file alone.
"""

from itertools import combinations, product

GIVEN = [1, 1, 1, 1, 1, 0, 0, 1, 1, 2, 3, 1, 1, 1, 0]


def flat(calls):
    return [number for call in calls for number in call]


def split(numbers):
    parts = []
    at = 0
    while at < len(numbers):
        many = numbers[at]
        parts.append(numbers[at + 1:at + 1 + many])
        assert len(parts[-1]) == many
        at += 1 + many
    return parts


def spelled(word, n):
    return bin(word)[2:].zfill(n)


def number(text):
    return int(text, 2)


def all_words(n):
    return ["".join(letters) for letters in product("01", repeat=n)]


def lost(text):
    return {text[:i] + text[i + 1:] for i in range(len(text))}


def gained(text):
    return {text[:i] + x + text[i:] for i in range(len(text) + 1) for x in "01"}


def alike(first, second):
    return bool(lost(first) & lost(second))


def alike_by_gaining(first, second):
    return bool(gained(first) & gained(second))


def runs(text):
    return len(text.replace("01", "0 1").replace("10", "1 0").split())


def weight(text):
    return sum(i for i, letter in enumerate(text, 1) if letter == "1")


def class_words(n, a):
    return [text for text in all_words(n) if weight(text) % (n + 1) == a]


def safe(texts):
    return not any(alike(u, v) for u, v in combinations(sorted(texts), 2))


def better(first, second):
    """Whether of two sets the first is to be answered: more words, or the least word in which they differ."""
    if len(first) != len(second):
        return len(first) > len(second)
    differ = first ^ second
    return bool(differ) and min(differ) in first


def most(code, n):
    """The safe set with most: every safe set that has the code is tried."""
    best = frozenset(code)
    waiting = [(frozenset(code), [w for w in all_words(n) if w not in code and safe(code | {w})])]
    while waiting:
        there, free = waiting.pop()
        if better(there, best):
            best = there
        for at, word in enumerate(free):
            waiting.append((there | {word}, [w for w in free[at + 1:] if not alike(w, word)]))
    return best


def listed(texts, many):
    told = sorted(number(text) + 1 for text in texts)
    return told + [0] * (many - len(told))


class Plain:
    """One object of the document, points 1 to 3."""

    def __init__(self):
        self.n = None
        self.code = frozenset()

    def call(self, which, *given):
        if which == 0:
            return self.start(*given)
        if which in (1, 2, 3, 7, 8, 9, 10, 11, 12):
            if given[0] >= 2 ** self.n:
                return [-2]
            given = (spelled(given[0], self.n),) + given[1:]
        names = {
            1: "add", 2: "force", 3: "drop", 4: "take", 5: "grow", 6: "clear", 7: "lost", 8: "gained",
            9: "losing", 10: "gaining", 11: "runs", 12: "weight", 13: "of_class", 14: "largest",
        }
        return getattr(self, names[which])(*given)

    def start(self, n):
        if n not in range(2, 11):
            return [-22]
        self.n = n
        self.code = frozenset()
        return [0]

    def add(self, w):
        if w in self.code:
            return [-17]
        if len(self.code) == 24:
            return [-28]
        if any(alike(w, v) for v in self.code):
            return [-33]
        self.code |= {w}
        return [len(self.code)]

    def force(self, w):
        if w in self.code:
            return [-17]
        if len(self.code) == 24:
            return [-28]
        many = sum(alike(w, v) for v in self.code)
        self.code |= {w}
        return [len(self.code), many]

    def drop(self, w):
        if w not in self.code:
            return [-6]
        self.code -= {w}
        return [len(self.code)]

    def take(self, a):
        if a > self.n:
            return [-22]
        words = frozenset(class_words(self.n, a))
        if len(words) > 24:
            return [-28]
        if words == self.code:
            return [-17]
        self.code = words
        return [len(words)]

    def grow(self):
        if self.n > 5:
            return [-75]
        if not safe(self.code):
            return [-33]
        best = most(self.code, self.n)
        if best == self.code:
            return [-17]
        self.code = best
        return [len(best)]

    def clear(self):
        if not self.code:
            return [-17]
        many = len(self.code)
        self.code = frozenset()
        return [many]

    def lost(self, w):
        return [len(lost(w))] + listed(lost(w), 10)

    def gained(self, w):
        return [len(gained(w))] + listed(gained(w), 12)

    def losing(self, w, i):
        if i >= self.n:
            return [-22]
        return [number(w[:i] + w[i + 1:])]

    def gaining(self, w, i, x):
        if i > self.n or x > 1:
            return [-22]
        return [number(w[:i] + str(x) + w[i:])]

    def runs(self, w):
        return [runs(w)]

    def weight(self, w):
        return [weight(w), weight(w) % (self.n + 1)]

    def of_class(self, a):
        if a > self.n:
            return [-22]
        words = [number(text) for text in class_words(self.n, a)]
        return [len(words), min(words), max(words)]

    def largest(self):
        sizes = [len(class_words(self.n, a)) for a in range(self.n + 1)]
        return [sizes.index(max(sizes)), max(sizes)]


def play(calls):
    plain = Plain()
    return [plain.call(*call) for call in calls]
