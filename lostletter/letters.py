"""The calls on one object, written as numbers, and their answers."""

from lostletter.changes import answer_change, is_change
from lostletter.codes import answer_of_code, is_of_code
from lostletter.looks import answer_look
from lostletter.mends import answer_mend, is_mend
from lostletter.refusals import NOT_THERE, OUT_OF_RANGE
from lostletter.session import Session, can_start
from lostletter.steps import answer_step, is_step

START = 0

# Of each call, by its number: a sign for each number it is given. A word of n
# letters is w, one of n less 1 is s, one of n and 1 is g; the others are no words.
GIVEN = (
    "n", "w", "w", "w", "a", "", "", "w", "w", "wi", "wix", "w", "w", "a", "",
    "ww", "", "", "", "s", "g", "as", "ag", "ww", "", "k", "", "", "",
)

# How many letters more than n the words of each sign have.
MORE_LETTERS = {"w": 0, "s": -1, "g": 1}


def start(session, n):
    """ll_start: n."""
    if not can_start(n):
        return [OUT_OF_RANGE]
    session.begin(n)
    return [0]


def words_are_there(session, number, given):
    """Whether all words that the call is given are there."""
    for sign, value in zip(GIVEN[number], given):
        if sign in MORE_LETTERS and not session.has_word(value, MORE_LETTERS[sign]):
            return False
    return True


def answer_call(session, number, given):
    """What one call answers: its number, and behind it what stands under out."""
    if number == START:
        return start(session, given[0])
    # A word that isn't there is looked at ahead of all else, so once for all calls.
    if not words_are_there(session, number, given):
        return [NOT_THERE]
    if is_change(number):
        return answer_change(session, number, given)
    if is_mend(number):
        return answer_mend(session, number, given)
    if is_of_code(number):
        return answer_of_code(session, number, given)
    if is_step(number):
        return answer_step(session, number, given)
    return answer_look(session, number, given)


def answers(calls):
    """For each call, in order, how many numbers it answers, and these."""
    session = Session()
    numbers = []
    place = 0
    while place < len(calls):
        number = calls[place]
        behind = place + 1 + len(GIVEN[number])
        answer = answer_call(session, number, calls[place + 1:behind])
        numbers.append(len(answer))
        numbers.extend(answer)
        place = behind
    return numbers
