"""The calls that tell of the code, and change nothing."""

from lostletter.changes import MOST_IN_CODE
from lostletter.refusals import NOT_THERE
from lostletter.safe import free_words, is_safe, refusal_to_search, safe_with_most
from lostletter.words import letters_of, told

MOST_TOLD = 10
LETTERS_TOLD = 10


def tell_safe(session, given):
    """ll_safe."""
    return [1 if is_safe(session.history.code, session.n) else 0]


def tell_most(session, given):
    """ll_most."""
    code = session.history.code
    refusal = refusal_to_search(code, session.n)
    if refusal < 0:
        return [refusal]
    most = safe_with_most(code, session.n)
    return [len(most)] + told(most, MOST_TOLD)


def tell_may(session, given):
    """ll_may."""
    words = free_words(session.history.code, session.n)
    return [len(words)] + told(words[:1], 1)


def tell_code(session, given):
    """ll_code."""
    code = session.history.code
    return [len(code)] + told(code, MOST_IN_CODE)


def tell_write(session, given):
    """ll_write: k."""
    code = session.history.code
    if given[0] >= len(code):
        return [NOT_THERE]
    word = code[given[0]]
    # Letters are no words: they are told as they are, in the order in which they stand.
    return [word] + letters_of(word, session.n) + [0] * (LETTERS_TOLD - session.n)


OF_CODE = {16: tell_safe, 17: tell_most, 18: tell_may, 24: tell_code, 25: tell_write}


def is_of_code(number):
    """Whether the call of this number tells of the code."""
    return number in OF_CODE


def answer_of_code(session, number, given):
    """What the call answers."""
    return OF_CODE[number](session, given)
