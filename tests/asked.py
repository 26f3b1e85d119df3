"""How the tests ask the program: calls as short lists, answers one list a call."""

from plain import flat, split

from lostletter.letters import answers

START, ADD, FORCE, DROP, TAKE, GROW, CLEAR, LOST = range(8)
GAINED, LOSING, GAINING, RUNS, WEIGHT, CLASS, LARGEST = range(8, 15)
GREATEST = 4294967295


def ask(calls):
    """One list of answers for each call."""
    parts = split(answers(flat(calls)))
    assert len(parts) == len(calls)
    return parts


def last(calls):
    """What the last of the calls answers."""
    return ask(calls)[-1]


def code_behind(calls, n):
    """The words of the code behind the calls, found by dropping every word there is."""
    code = []
    words = range(2 ** n)
    for at in range(0, len(words), 500):
        some = words[at:at + 500]
        told = ask(calls + [[DROP, w] for w in some])[len(calls):]
        code += [w for w, answer in zip(some, told) if answer != [-6]]
    return code


def forced(n, words):
    """A start and a code of these words, safe or not."""
    return [[START, n]] + [[FORCE, w] for w in words]
