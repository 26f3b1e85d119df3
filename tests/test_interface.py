"""The interface: calls as numbers, answers as numbers, nothing changed and nothing kept."""

import random
import unittest

import plain
from asked import (ADD, AGAIN, ALIKE, BACK, CLASS, CLEAR, CODE, COMMON, DROP, FORCE, GAINED, GAINING, GREATEST, GROW,
                   LARGEST, LOSING, LOST, MAY, MEND, MENDG, MOST, OUT, RUNS, SAFE, START, STATE, TAKE, UNDO, WEIGHT,
                   WRITE, ask, forced)

from lostletter.letters import answers

EACH_ONCE = [
    0, 4, 1, 0, 2, 1, 3, 1, 4, 0, 6, 5, 7, 6, 8, 6, 9, 6, 0, 10, 6, 0, 1, 11, 6, 12, 6, 13, 0, 14,
    15, 3, 5, 26, 16, 17, 18, 27, 19, 3, 20, 9, 21, 0, 2, 22, 0, 14, 23, 3, 5, 24, 25, 2, 28,
]
EACH_ANSWER = [
    1, 0,
    1, 1,
    2, 2, 1,
    1, 1,
    1, 4,
    1, 4,
    1, 4,
    11, 3, 3, 4, 7, 0, 0, 0, 0, 0, 0, 0,
    13, 6, 7, 11, 13, 14, 15, 23, 0, 0, 0, 0, 0, 0,
    1, 6,
    1, 22,
    1, 3,
    2, 5, 0,
    3, 4, 0, 15,
    2, 0, 4,
    2, 1, 1,
    1, 5,
    1, 1,
    11, 4, 1, 4, 11, 16, 0, 0, 0, 0, 0, 0,
    2, 16, 1,
    1, 0,
    1, 3,
    1, -33,
    1, 6,
    1, 6,
    11, 2, 2, 4, 0, 0, 0, 0, 0, 0, 0, 0,
    25, 4, 1, 4, 11, 16, 0, 0, 0, 0, 0, 0, 0, 0, 0, 0, 0, 0, 0, 0, 0, 0, 0, 0, 0, 0,
    11, 10, 1, 0, 1, 0, 0, 0, 0, 0, 0, 0,
    4, 4, 4, 6, 0,
]

NUMBERS = [0, 1, 2, 3, 4, 5, 6, 9, 10, 11, 12, 15, 16, 31, 32, 63, 64, 127, 128, 255, 256, 511, 512, 1023, 1024,
           2047, 2048, 2147483647, 2147483648, 4294967294, GREATEST]


# How many numbers each call answers that isn't refused.
ANSWERED = {FORCE: 2, WEIGHT: 2, LARGEST: 2, ALIKE: 2, MAY: 2, CLASS: 3, STATE: 4, LOST: 11, MOST: 11, COMMON: 11,
            WRITE: 11, GAINED: 13, CODE: 25}


def some_call(source, n):
    which = source.choice([0] + list(range(1, 29)) * 2 + [ADD, FORCE, UNDO, AGAIN] * 3)
    if which == START:
        return [START, source.choice([0, 1, 2, 3, 4, 5, 6, 8, 10, 11, GREATEST])]
    given = []
    for place in range(plain.GIVEN[which]):
        if source.randrange(8) == 0:
            given.append(source.choice(NUMBERS))
        elif place in plain.WORDS.get(which, {}):
            given.append(source.randrange(2 ** (n + plain.WORDS[which][place])))
        else:
            given.append(source.randrange(n + 2) if place < 2 else source.randrange(3))
    return [which] + given


def some_calls(source, many):
    n = source.choice([2, 3, 4, 4, 5, 5, 6, 7, 8, 10])
    calls = [[START, n]]
    while len(calls) < many:
        call = some_call(source, n)
        if call[0] == START and call[1] in range(2, 11):
            n = call[1]
        calls.append(call)
    return calls


class InterfaceTest(unittest.TestCase):
    def test_each_call_once(self):
        self.assertEqual(answers(EACH_ONCE), EACH_ANSWER)

    def test_a_refusal_is_one_number_alone(self):
        refused = [[ADD, 99], [FORCE, 99], [DROP, 99], [TAKE, 99], [CLEAR], [LOST, 99], [GAINED, 99], [LOSING, 99, 0],
                   [LOSING, 0, 99], [GAINING, 99, 0, 0], [GAINING, 0, 99, 0], [RUNS, 99], [WEIGHT, 99], [CLASS, 99],
                   [ALIKE, 99, 0], [ALIKE, 0, 99], [ALIKE, 0, 0], [MEND, 99], [MEND, 0], [MENDG, 99], [MENDG, 0],
                   [BACK, 0, 99], [BACK, 99, 0], [OUT, 0, 99], [OUT, 99, 0], [OUT, 1, 0], [COMMON, 99, 0],
                   [COMMON, 0, 99], [WRITE, 0], [UNDO], [AGAIN]]
        told = answers(plain.flat([[START, 4]] + refused))
        self.assertEqual(len(told), 2 * (1 + len(refused)))
        for many, answer in zip(told[2::2], told[3::2]):
            self.assertEqual(many, 1)
            self.assertLess(answer, 0)

    def test_searches_that_are_refused_answer_one_number_too(self):
        self.assertEqual(answers([0, 6, 5, 17]), [1, 0, 1, -75, 1, -75])
        self.assertEqual(answers([0, 5, 1, 0, 2, 1, 5, 17]), [1, 0, 1, 1, 2, 2, 1, 1, -33, 1, -33])

    def test_always_as_many_numbers_as_told(self):
        source = random.Random(5)
        for round_number in range(60):
            calls = some_calls(source, 60)
            for call, answer in zip(calls, ask(calls)):
                self.assertEqual(len(answer), 1 if answer[0] < 0 else ANSWERED.get(call[0], 1), call)

    def test_the_list_handed_in_stays_as_it_was(self):
        source = random.Random(6)
        for line in [EACH_ONCE] + [plain.flat(some_calls(source, 100)) for round_number in range(20)]:
            handed = list(line)
            first = answers(handed)
            self.assertEqual(handed, line)
            self.assertEqual(answers(handed), first)
            self.assertEqual(handed, line)

    def test_what_is_given_back_is_a_new_list_of_whole_numbers(self):
        handed = list(EACH_ONCE)
        told = answers(handed)
        self.assertIsNot(told, handed)
        self.assertIs(type(told), list)
        self.assertEqual({type(number) for number in told}, {int})

    def test_nothing_is_kept_from_one_time_to_the_next(self):
        first = answers(EACH_ONCE)
        first.append(1)
        answers([0, 5, 5, 1, 1])
        answers([0, 6, 4, 0, 2, 1, 26, 26, 27])
        self.assertEqual(answers(EACH_ONCE), EACH_ANSWER)
        for again in range(2):
            self.assertEqual(answers([0, 4, 1, 0, 28]), [1, 0, 1, 1, 4, 1, 4, 1, 0])

    def test_greatest_numbers_in_each_place(self):
        for n in range(2, 11):
            for big in (1025, 65536, 2147483647, 2147483648, 4294967294, GREATEST):
                calls = [[START, n], [START, big], [ADD, big], [FORCE, big], [DROP, big], [TAKE, big], [LOST, big],
                         [GAINED, big], [LOSING, big, 0], [LOSING, 0, big], [LOSING, big, big], [GAINING, big, 0, 0],
                         [GAINING, 0, big, 0], [GAINING, 0, 0, big], [GAINING, big, big, big], [RUNS, big],
                         [WEIGHT, big], [CLASS, big], [CLEAR]]
                self.assertEqual(plain.flat(ask(calls)),
                                 [0, -22, -2, -2, -2, -22, -2, -2, -2, -22, -2, -2, -22, -22, -2, -2, -2, -22, -17])

    def test_greatest_numbers_in_each_place_of_the_later_calls(self):
        for n in range(2, 11):
            for big in (2049, 65536, 2147483647, 2147483648, 4294967294, GREATEST):
                calls = [[START, n], [ALIKE, big, 0], [ALIKE, 0, big], [ALIKE, big, big], [MEND, big], [MENDG, big],
                         [BACK, big, 0], [BACK, 0, big], [BACK, big, big], [OUT, big, 0], [OUT, 0, big],
                         [OUT, big, big], [COMMON, big, 0], [COMMON, 0, big], [COMMON, big, big], [WRITE, big],
                         [START, big], [UNDO]]
                self.assertEqual(plain.flat(ask(calls)),
                                 [0, -2, -2, -2, -2, -2, -22, -2, -2, -22, -2, -2, -2, -2, -2, -2, -22, -2])

    def test_a_thousand_calls(self):
        # The slowest calls, as many as a list may have.
        full = forced(10, range(0, 1008, 42))
        for calls in ([[START, 5]] + [[GROW], [CLEAR]] * 499, [[START, 10]] + [[LARGEST]] * 999,
                      [[START, 10]] + [[CLASS, 10]] * 999, [[START, 10]] * 1000, [[START, 5]] + [[MOST]] * 999,
                      full + [[MAY]] * 975, full + [[SAFE]] * 975, full + [[ALIKE, 341, 682]] * 975):
            told = ask(calls)
            self.assertEqual(len(told), len(calls))
            self.assertEqual(told[-1], told[-3])

    def test_a_thousand_calls_of_many_sorts(self):
        dear = [[MOST], [GROW], [MAY], [SAFE], [CODE], [UNDO], [AGAIN], [CLEAR], [ADD, 1], [MOST], [DROP, 1]]
        five = [[START, 5]] + dear * 45
        ten = forced(10, range(24)) + [[MAY], [SAFE], [MEND, 0], [MENDG, 1], [BACK, 0, 341], [OUT, 0, 682], [LARGEST],
                                       [ALIKE, 341, 682], [COMMON, 341, 682], [CODE], [UNDO], [AGAIN]] * 39
        calls = five + ten
        calls += [[STATE]] * (1000 - len(calls))
        self.assertEqual(len(calls), 1000)
        self.assertEqual(ask(calls), plain.play(calls))

    def test_as_the_plain_one_answers(self):
        source = random.Random(20261116)
        for round_number in range(200):
            calls = some_calls(source, 60)
            self.assertEqual(ask(calls), plain.play(calls), calls)


if __name__ == "__main__":
    unittest.main()
