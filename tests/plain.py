"""The document once more, over texts of letters and by trying all, for the tests to hold the program against.

It is written apart from the program and shares nothing with it. `split` parts what
`answers` gives back into one list a call; `play` answers calls by this file alone.
"""

import random
from functools import lru_cache
from itertools import combinations, product

NAMES = [
    "start", "add", "force", "drop", "take", "grow", "clear", "lost", "gained", "losing", "gaining", "runs", "weight",
    "of_class", "largest", "alike", "is_safe", "most", "may", "mend", "mendg", "back", "out", "common", "tell_code",
    "write", "undo", "again", "state",
]
GIVEN = [1, 1, 1, 1, 1, 0, 0, 1, 1, 2, 3, 1, 1, 1, 0, 2, 0, 0, 0, 1, 1, 2, 2, 2, 0, 1, 0, 0, 0]

# Which of the numbers a call is given are words, and how many letters more than n these have.
WORDS = {
    1: {0: 0}, 2: {0: 0}, 3: {0: 0}, 7: {0: 0}, 8: {0: 0}, 9: {0: 0}, 10: {0: 0}, 11: {0: 0}, 12: {0: 0},
    15: {0: 0, 1: 0}, 19: {0: -1}, 20: {0: 1}, 21: {1: -1}, 22: {1: 1}, 23: {0: 0, 1: 0},
}


def flat(calls):
    return [number for call in calls for number in call]


def split(numbers):
    parts = []
    at = 0
    while at < len(numbers):
        many = numbers[at]
        parts.append(numbers[at + 1:at + 1 + many])
        assert len(parts[-1]) == many
        at += 1 + many
    return parts


def spelled(word, n):
    return bin(word)[2:].zfill(n)


def number(text):
    return int(text, 2)


def all_words(n):
    return ["".join(letters) for letters in product("01", repeat=n)]


def lost(text):
    return {text[:i] + text[i + 1:] for i in range(len(text))}


def gained(text):
    return {text[:i] + x + text[i:] for i in range(len(text) + 1) for x in "01"}


def alike(first, second):
    return bool(lost(first) & lost(second))


def alike_by_gaining(first, second):
    return bool(gained(first) & gained(second))


def runs(text):
    return len(text.replace("01", "0 1").replace("10", "1 0").split())


def weight(text):
    return sum(i for i, letter in enumerate(text, 1) if letter == "1")


def class_words(n, a):
    return [text for text in all_words(n) if weight(text) % (n + 1) == a]


def safe(texts):
    return not any(alike(u, v) for u, v in combinations(sorted(texts), 2))


def better(first, second):
    """Whether of two sets the first is to be answered: more words, or the least word in which they differ."""
    if len(first) != len(second):
        return len(first) > len(second)
    differ = first ^ second
    return bool(differ) and min(differ) in first


@lru_cache(maxsize=None)
def most(code, n):
    """The safe set with most: every safe set that has the code is tried."""
    best = frozenset(code)
    waiting = [(frozenset(code), [w for w in all_words(n) if w not in code and safe(code | {w})])]
    while waiting:
        there, free = waiting.pop()
        if better(there, best):
            best = there
        for at, word in enumerate(free):
            waiting.append((there | {word}, [w for w in free[at + 1:] if not alike(w, word)]))
    return best


def may(code, n):
    """All words that are alike with none of the code, and not of it, rising."""
    return [w for w in all_words(n) if w not in code and not any(alike(w, v) for v in code)]


def the_one(texts):
    if len(texts) == 1:
        return [number(texts[0])]
    return [-16] if texts else [-33]


def listed(texts, many):
    told = sorted(number(text) + 1 for text in texts)
    return told + [0] * (many - len(told))


def texts(words, n):
    return frozenset(spelled(w, n) for w in words)


@lru_cache(maxsize=None)
def some_codes(n):
    """Codes, safe ones and others, of none to 24 words, each in some order."""
    source = random.Random(n)
    codes = [[], [0], [2 ** n - 1], [0, 2 ** n - 1], [0, 1]]
    for many in (2, 3, 5, 10, 16, 24):
        if many <= 2 ** n:
            codes.append(source.sample(range(2 ** n), many))
    for round_number in range(4):
        words = safe_words(source.sample(range(2 ** n), 2 ** n), n)
        codes += [words, words[:3]]
    return codes


def safe_words(words, n):
    """Of the words, in their order, each that is alike with none ahead of it, at most 24."""
    there = []
    for w in words:
        if len(there) < 24 and not any(alike(spelled(w, n), spelled(v, n)) for v in there):
            there.append(w)
    return there


class Plain:
    """One object of the document: all codes in a row, and which of them is the one there is."""

    def __init__(self):
        self.n = None
        self.codes = [frozenset()]
        self.at = 0

    @property
    def code(self):
        return self.codes[self.at]

    @code.setter
    def code(self, changed):
        self.codes = self.codes[:self.at + 1] + [changed]
        self.codes = self.codes[-21:]
        self.at = len(self.codes) - 1

    def call(self, which, *given):
        given = list(given)
        for place, more in WORDS.get(which, {}).items():
            if given[place] >= 2 ** (self.n + more):
                return [-2]
            given[place] = spelled(given[place], self.n + more)
        return getattr(self, NAMES[which])(*given)

    def start(self, n):
        if n not in range(2, 11):
            return [-22]
        self.n = n
        self.codes = [frozenset()]
        self.at = 0
        return [0]

    def add(self, w):
        if w in self.code:
            return [-17]
        if len(self.code) == 24:
            return [-28]
        if any(alike(w, v) for v in self.code):
            return [-33]
        self.code |= {w}
        return [len(self.code)]

    def force(self, w):
        if w in self.code:
            return [-17]
        if len(self.code) == 24:
            return [-28]
        many = sum(alike(w, v) for v in self.code)
        self.code |= {w}
        return [len(self.code), many]

    def drop(self, w):
        if w not in self.code:
            return [-6]
        self.code -= {w}
        return [len(self.code)]

    def take(self, a):
        if a > self.n:
            return [-22]
        words = frozenset(class_words(self.n, a))
        if len(words) > 24:
            return [-28]
        if words == self.code:
            return [-17]
        self.code = words
        return [len(words)]

    def grow(self):
        if self.n > 5:
            return [-75]
        if not safe(self.code):
            return [-33]
        best = most(self.code, self.n)
        if best == self.code:
            return [-17]
        self.code = best
        return [len(best)]

    def clear(self):
        if not self.code:
            return [-17]
        many = len(self.code)
        self.code = frozenset()
        return [many]

    def lost(self, w):
        return [len(lost(w))] + listed(lost(w), 10)

    def gained(self, w):
        return [len(gained(w))] + listed(gained(w), 12)

    def losing(self, w, i):
        if i >= self.n:
            return [-22]
        return [number(w[:i] + w[i + 1:])]

    def gaining(self, w, i, x):
        if i > self.n or x > 1:
            return [-22]
        return [number(w[:i] + str(x) + w[i:])]

    def runs(self, w):
        return [runs(w)]

    def weight(self, w):
        return [weight(w), weight(w) % (self.n + 1)]

    def of_class(self, a):
        if a > self.n:
            return [-22]
        words = [number(text) for text in class_words(self.n, a)]
        return [len(words), min(words), max(words)]

    def largest(self):
        sizes = [len(class_words(self.n, a)) for a in range(self.n + 1)]
        return [sizes.index(max(sizes)), max(sizes)]

    def alike(self, u, v):
        if u == v:
            return [-22]
        return [int(alike(u, v)), int(alike_by_gaining(u, v))]

    def common(self, u, v):
        both = lost(u) & lost(v)
        return [len(both)] + listed(both, 10)

    def is_safe(self):
        return [int(safe(self.code))]

    def most(self):
        if self.n > 5:
            return [-75]
        if not safe(self.code):
            return [-33]
        best = most(self.code, self.n)
        return [len(best)] + listed(best, 10)

    def may(self):
        words = may(self.code, self.n)
        return [len(words), number(words[0]) + 1 if words else 0]

    def mend(self, s):
        return the_one([w for w in self.code if s in lost(w)])

    def mendg(self, s):
        return the_one([w for w in self.code if s in gained(w)])

    def back(self, a, s):
        if a > self.n:
            return [-22]
        return the_one([w for w in class_words(self.n, a) if s in lost(w)])

    def out(self, a, s):
        if a > self.n:
            return [-22]
        return the_one([w for w in class_words(self.n, a) if s in gained(w)])

    def tell_code(self):
        return [len(self.code)] + listed(self.code, 24)

    def write(self, k):
        words = sorted(self.code)
        if k >= len(words):
            return [-2]
        return [number(words[k])] + [int(letter) for letter in words[k].ljust(10, "0")]

    def undo(self):
        if self.at == 0:
            return [-2]
        self.at -= 1
        return [self.at]

    def again(self):
        if self.at == len(self.codes) - 1:
            return [-2]
        self.at += 1
        return [len(self.codes) - 1 - self.at]

    def state(self):
        return [len(self.code), self.n, self.at, len(self.codes) - 1 - self.at]


def play(calls):
    plain = Plain()
    return [plain.call(*call) for call in calls]
