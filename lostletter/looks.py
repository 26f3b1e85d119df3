"""The calls that look at words and classes, whatever the code is."""

from lostletter.refusals import OUT_OF_RANGE
from lostletter.words import alike_by_gaining, alike_by_losing, common, gained, gaining, losing, lost, runs, told

LOST_TOLD = 10
GAINED_TOLD = 12


def tell_lost(session, given):
    """ll_lost: w."""
    shorter = lost(given[0], session.n)
    return [len(shorter)] + told(shorter, LOST_TOLD)


def tell_gained(session, given):
    """ll_gained: w."""
    longer = gained(given[0], session.n)
    return [len(longer)] + told(longer, GAINED_TOLD)


def tell_losing(session, given):
    """ll_losing: w, i."""
    place = given[1]
    if place >= session.n:
        return [OUT_OF_RANGE]
    return [losing(given[0], session.n, place)]


def tell_gaining(session, given):
    """ll_gaining: w, i, x."""
    place = given[1]
    letter = given[2]
    if place > session.n or letter > 1:
        return [OUT_OF_RANGE]
    return [gaining(given[0], session.n, place, letter)]


def tell_runs(session, given):
    """ll_runs: w."""
    return [runs(given[0], session.n)]


def tell_weight(session, given):
    """ll_weight: w."""
    return [session.weights[given[0]], session.class_of(given[0])]


def tell_class(session, given):
    """ll_class: a."""
    if not session.has_class(given[0]):
        return [OUT_OF_RANGE]
    words = session.words_of_class(given[0])
    # No list of words, but two words told singly: as they are, without the 1 of a list.
    return [len(words), words[0], words[-1]]


def tell_largest(session, given):
    """ll_largest."""
    sizes = [0] * (session.n + 1)
    for weight in session.weights:
        a = weight % (session.n + 1)
        sizes[a] = sizes[a] + 1
    most = max(sizes)
    return [sizes.index(most), most]


def tell_alike(session, given):
    """ll_alike: u, v."""
    first = given[0]
    second = given[1]
    if first == second:
        return [OUT_OF_RANGE]
    losing_one = 1 if alike_by_losing(first, second, session.n) else 0
    gaining_one = 1 if alike_by_gaining(first, second, session.n) else 0
    return [losing_one, gaining_one]


def tell_common(session, given):
    """ll_common: u, v."""
    shorter = common(given[0], given[1], session.n)
    return [len(shorter)] + told(shorter, LOST_TOLD)


LOOKS = {
    7: tell_lost,
    8: tell_gained,
    9: tell_losing,
    10: tell_gaining,
    11: tell_runs,
    12: tell_weight,
    13: tell_class,
    14: tell_largest,
    15: tell_alike,
    23: tell_common,
}


def answer_look(session, number, given):
    """What the call answers."""
    return LOOKS[number](session, given)
