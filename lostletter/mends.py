"""The calls that put a lost letter back, or take a gained one out."""

from lostletter.refusals import OF_NONE, OF_SEVERAL, OUT_OF_RANGE
from lostletter.words import gained, lost


def the_one_of(words):
    """The one word there is, or why it can't be told."""
    if len(words) == 0:
        return [OF_NONE]
    if len(words) > 1:
        return [OF_SEVERAL]
    return [words[0]]


def before_losing(session, shorter):
    """All words of n letters of which the shorter one comes by losing a letter."""
    # They are just those that it becomes by gaining one.
    return gained(shorter, session.n - 1)


def before_gaining(session, longer):
    """All words of n letters of which the longer one comes by gaining a letter."""
    # They are just those that it becomes by losing one.
    return lost(longer, session.n + 1)


def one_of_code(session, words):
    """The one of the words that is of the code."""
    return the_one_of([word for word in words if word in session.history.code])


def one_of_class(session, a, words):
    """The one of the words that is of the class a."""
    if not session.has_class(a):
        return [OUT_OF_RANGE]
    return the_one_of([word for word in words if session.class_of(word) == a])


def mend_lost(session, given):
    """ll_mend: s."""
    return one_of_code(session, before_losing(session, given[0]))


def mend_gained(session, given):
    """ll_mendg: s."""
    return one_of_code(session, before_gaining(session, given[0]))


def put_back(session, given):
    """ll_back: a, s."""
    return one_of_class(session, given[0], before_losing(session, given[1]))


def take_out(session, given):
    """ll_out: a, s."""
    return one_of_class(session, given[0], before_gaining(session, given[1]))


MENDS = {19: mend_lost, 20: mend_gained, 21: put_back, 22: take_out}


def is_mend(number):
    """Whether the call of this number puts a letter back or takes one out."""
    return number in MENDS


def answer_mend(session, number, given):
    """What the call answers."""
    return MENDS[number](session, given)
