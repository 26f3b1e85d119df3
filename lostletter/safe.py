"""Safe sets of words, and the one with most."""

from lostletter.refusals import ALIKE, TOO_LONG
from lostletter.words import gained, lost

MOST_LETTERS_SEARCHED = 5


def is_safe(code, n):
    """Whether no two words of the code are alike by losing."""
    seen = {}
    for word in code:
        for shorter in lost(word, n):
            if shorter in seen:
                return False
            seen[shorter] = True
    return True


def free_words(code, n):
    """All words that are alike by losing with none of the code, and not of it, rising."""
    shorter = {}
    for word in code:
        for left in lost(word, n):
            shorter[left] = True
    near = {}
    for left in shorter:
        # A word of the code is among those it is near to, as it gains back what it lost.
        for word in gained(left, n - 1):
            near[word] = True
    return [word for word in range(1 << n) if word not in near]


def mask_of(words):
    """A number with a one at each of the words."""
    mask = 0
    for word in words:
        mask = mask | (1 << word)
    return mask


def near_masks(n):
    """Of each word of n letters the mask of it and all that are alike with it by losing."""
    # Words that lose a letter to the same shorter word are just those it becomes by gaining one.
    longer = [mask_of(gained(shorter, n - 1)) for shorter in range(1 << (n - 1))]
    masks = []
    for word in range(1 << n):
        mask = 0
        for shorter in lost(word, n):
            mask = mask | longer[shorter]
        masks.append(mask)
    return masks


def most_within(free, near, known):
    """Of the words of the mask free the safe set with most, rising."""
    if free == 0:
        return ()
    if free in known:
        return known[free]
    rest = free & (free - 1)
    least = (free ^ rest).bit_length() - 1
    taken = (least,) + most_within(free & ~near[least], near, known)
    left = most_within(rest, near, known)
    # Of like sizes the set that has the least word goes first: it is where the two differ.
    known[free] = taken if len(taken) >= len(left) else left
    return known[free]


def safe_with_most(code, n):
    """The safe set with most words that has all of the code, which is safe, rising."""
    near = near_masks(n)
    free = (1 << (1 << n)) - 1
    for word in code:
        free = free & ~near[word]
    return tuple(sorted(list(code) + list(most_within(free, near, {}))))


def refusal_to_search(code, n):
    """Why the safe set with most that has the code isn't told; 0 if it is."""
    if n > MOST_LETTERS_SEARCHED:
        return TOO_LONG
    if not is_safe(code, n):
        return ALIKE
    return 0
