"""The calls that take changes back and do them again, and the one that tells where things stand."""

from lostletter.refusals import NOT_THERE


def undo(session, given):
    """ll_undo."""
    if not session.history.take_back():
        return [NOT_THERE]
    return [len(session.history.earlier)]


def again(session, given):
    """ll_again."""
    if not session.history.do_again():
        return [NOT_THERE]
    return [len(session.history.later)]


def tell_state(session, given):
    """ll_state."""
    history = session.history
    return [len(history.code), session.n, len(history.earlier), len(history.later)]


STEPS = {26: undo, 27: again, 28: tell_state}


def is_step(number):
    """Whether the call of this number is one of these."""
    return number in STEPS


def answer_step(session, number, given):
    """What the call answers, and the step it makes."""
    return STEPS[number](session, given)
