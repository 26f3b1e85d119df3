"""How the tests ask the program: calls as short lists, answers one list a call."""

import unittest

from plain import flat, split

from lostletter.letters import answers

START, ADD, FORCE, DROP, TAKE, GROW, CLEAR, LOST = range(8)
GAINED, LOSING, GAINING, RUNS, WEIGHT, CLASS, LARGEST = range(8, 15)
ALIKE, SAFE, MOST, MAY, MEND, MENDG, BACK, OUT, COMMON = range(15, 24)
CODE, WRITE, UNDO, AGAIN, STATE = range(24, 29)
GREATEST = 4294967295

# Calls that are asked behind others to see that these left all as it was.
WHOLE = [[STATE], [CODE]]


def ask(calls):
    """One list of answers for each call."""
    parts = split(answers(flat(calls)))
    assert len(parts) == len(calls)
    return parts


def last(calls):
    """What the last of the calls answers."""
    return ask(calls)[-1]


def asked_behind(calls, more):
    """What more calls answer behind the calls, some at a time, as a line has 1000 at most."""
    told = []
    for at in range(0, len(more), 900):
        told += ask(calls + more[at:at + 900])[len(calls):]
    return told


def code_behind(calls, n):
    """The words of the code behind the calls, found by dropping every word there is."""
    words = range(2 ** n)
    told = asked_behind(calls, [[DROP, w] for w in words])
    return [w for w, answer in zip(words, told) if answer != [-6]]


def whole_behind(calls):
    """All that there is behind the calls, with what can be taken back and done again, step by step."""
    back = [[UNDO], [STATE], [CODE]] * 21
    ahead = [[AGAIN], [STATE], [CODE]] * 21
    return [asked_behind(calls, WHOLE + steps) for steps in (back, ahead)]


def forced(n, words):
    """A start and a code of these words, safe or not."""
    return [[START, n]] + [[FORCE, w] for w in words]


class AskedTest(unittest.TestCase):
    def assert_leaves_all(self, calls, call):
        """Behind the call all is as it was ahead of it."""
        self.assertEqual(whole_behind(calls + [call]), whole_behind(calls), call)

    def assert_refused(self, calls, call, refusal):
        """The call is refused so, and all stays as it was."""
        self.assertEqual(last(calls + [call]), [refusal], call)
        self.assert_leaves_all(calls, call)
