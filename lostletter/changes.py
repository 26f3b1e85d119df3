"""The calls that change the code."""

from lostletter.refusals import ALIKE, ALREADY_SO, NOT_IN_CODE, OUT_OF_RANGE, TOO_MANY
from lostletter.safe import refusal_to_search, safe_with_most
from lostletter.words import alike_by_losing

MOST_IN_CODE = 24


def changed_to(session, code):
    """Make the code the session's, and tell how many words it has."""
    session.history.change(code)
    return len(code)


def alike_in_code(session, word):
    """With how many words of the code the word is alike by losing."""
    return len([other for other in session.history.code if alike_by_losing(word, other, session.n)])


def with_word(session, word):
    """The code and the word, rising."""
    return tuple(sorted(session.history.code + (word,)))


def refusal_of(session, word):
    """Why the code can't have the word too, whatever it is alike with; 0 if it can."""
    code = session.history.code
    if word in code:
        return ALREADY_SO
    if len(code) >= MOST_IN_CODE:
        return TOO_MANY
    return 0


def add(session, given):
    """ll_add: w."""
    word = given[0]
    refusal = refusal_of(session, word)
    if refusal < 0:
        return [refusal]
    if alike_in_code(session, word) > 0:
        return [ALIKE]
    return [changed_to(session, with_word(session, word))]


def force(session, given):
    """ll_force: w."""
    word = given[0]
    refusal = refusal_of(session, word)
    if refusal < 0:
        return [refusal]
    alike = alike_in_code(session, word)
    return [changed_to(session, with_word(session, word)), alike]


def drop(session, given):
    """ll_drop: w."""
    word = given[0]
    code = session.history.code
    if word not in code:
        return [NOT_IN_CODE]
    return [changed_to(session, tuple([other for other in code if other != word]))]


def take(session, given):
    """ll_take: a."""
    if not session.has_class(given[0]):
        return [OUT_OF_RANGE]
    words = session.words_of_class(given[0])
    if len(words) > MOST_IN_CODE:
        return [TOO_MANY]
    if words == session.history.code:
        return [ALREADY_SO]
    return [changed_to(session, words)]


def grow(session, given):
    """ll_grow."""
    code = session.history.code
    refusal = refusal_to_search(code, session.n)
    if refusal < 0:
        return [refusal]
    most = safe_with_most(code, session.n)
    if most == code:
        return [ALREADY_SO]
    return [changed_to(session, most)]


def empty(session, given):
    """ll_clear."""
    many = len(session.history.code)
    if many == 0:
        return [ALREADY_SO]
    changed_to(session, ())
    return [many]


CHANGES = {1: add, 2: force, 3: drop, 4: take, 5: grow, 6: empty}


def is_change(number):
    """Whether the call of this number changes the code."""
    return number in CHANGES


def answer_change(session, number, given):
    """What the call answers, and the change it makes."""
    return CHANGES[number](session, given)
