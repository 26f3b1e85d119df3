"""The calls on one object, written as numbers, and their answers."""

from lostletter.changes import answer_change, is_change
from lostletter.looks import answer_look
from lostletter.refusals import NOT_THERE, OUT_OF_RANGE
from lostletter.session import Session, can_start

START = 0

# Of each call, by its number: how many numbers it is given, and how many of
# these, from the first on, are words of n letters.
GIVEN = (
    (1, 0), (1, 1), (1, 1), (1, 1), (1, 0), (0, 0), (0, 0), (1, 1),
    (1, 1), (2, 1), (3, 1), (1, 1), (1, 1), (1, 0), (0, 0),
)


def start(session, n):
    """ll_start: n."""
    if not can_start(n):
        return [OUT_OF_RANGE]
    session.begin(n)
    return [0]


def answer_call(session, number, given):
    """What one call answers: its number, and behind it what stands under out."""
    if number == START:
        return start(session, given[0])
    words = given[:GIVEN[number][1]]
    # A word that isn't there is looked at ahead of all else, so once for all calls.
    if not all([session.has_word(word) for word in words]):
        return [NOT_THERE]
    if is_change(number):
        return answer_change(session, number, given)
    return answer_look(session, number, given)


def answers(calls):
    """For each call, in order, how many numbers it answers, and these."""
    session = Session()
    numbers = []
    place = 0
    while place < len(calls):
        number = calls[place]
        behind = place + 1 + GIVEN[number][0]
        answer = answer_call(session, number, calls[place + 1:behind])
        numbers.append(len(answer))
        numbers.extend(answer)
        place = behind
    return numbers
