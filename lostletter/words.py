"""Single words: numbers whose n digits of base 2 are the letters, the first one foremost."""


def last_letters(word, many):
    """The last letters of the word, as many as told."""
    return word & ((1 << many) - 1)


def letter_at(word, n, place):
    """The letter at the place, from 0."""
    return (word >> (n - 1 - place)) & 1


def letters_of(word, n):
    """All letters of the word, the first one foremost."""
    return [letter_at(word, n, place) for place in range(n)]


def losing(word, n, place):
    """What comes of the word by losing the letter at the place."""
    behind = n - 1 - place
    ahead = word >> (behind + 1)
    return (ahead << behind) | last_letters(word, behind)


def gaining(word, n, place, letter):
    """What comes of the word by gaining the letter ahead of the place."""
    behind = n - place
    ahead = word >> behind
    return (((ahead << 1) | letter) << behind) | last_letters(word, behind)


def lost(word, n):
    """All that comes of the word by losing a letter, rising, each once."""
    return sorted(set([losing(word, n, place) for place in range(n)]))


def gained(word, n):
    """All that comes of the word by gaining a letter, rising, each once."""
    by_zero = [gaining(word, n, place, 0) for place in range(n + 1)]
    by_one = [gaining(word, n, place, 1) for place in range(n + 1)]
    return sorted(set(by_zero + by_one))


def runs(word, n):
    """How many runs the word has."""
    turns = [place for place in range(1, n) if letter_at(word, n, place) != letter_at(word, n, place - 1)]
    return 1 + len(turns)


def common(first, second, n):
    """All that comes of both words by losing a letter, rising, each once."""
    return sorted(set(lost(first, n)) & set(lost(second, n)))


def alike_by_losing(first, second, n):
    """Whether some same word comes of both by losing a letter."""
    return len(common(first, second, n)) > 0


def alike_by_gaining(first, second, n):
    """Whether some same word comes of both by gaining a letter."""
    return len(set(gained(first, n)) & set(gained(second, n))) > 0


def weights(n):
    """The weight of every word of n letters, in the order of the words."""
    known = [0]
    for place in range(1, n + 1):
        longer = []
        for weight in known:
            # The words 2w and 2w + 1 are w with one more letter behind it, at this place.
            longer.append(weight)
            longer.append(weight + place)
        known = longer
    return known


def told(words, many):
    """The words as lists tell them, filled up to as many numbers as told."""
    # Each is told and 1, so that 0 can stand behind the last.
    rising = [word + 1 for word in sorted(words)]
    return rising + [0] * (many - len(rising))
