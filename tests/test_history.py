"""Points 1 and 7: what a change is, and that the last 20 can be taken back and done again."""

import random
import unittest

import plain
from asked import (ADD, AGAIN, ALIKE, BACK, CLASS, CLEAR, CODE, COMMON, DROP, FORCE, GAINED, GAINING, GREATEST, GROW,
                   LARGEST, LOSING, LOST, MAY, MEND, MENDG, MOST, OUT, RUNS, SAFE, START, STATE, TAKE, UNDO, WEIGHT,
                   WRITE, AskedTest, ask, asked_behind, forced, last)

LOOKS = [[LOST, 1], [GAINED, 1], [LOSING, 1, 0], [GAINING, 1, 0, 1], [RUNS, 1], [WEIGHT, 1], [CLASS, 1], [LARGEST],
         [ALIKE, 0, 1], [SAFE], [MOST], [MAY], [MEND, 0], [MENDG, 0], [BACK, 0, 0], [OUT, 0, 0], [COMMON, 0, 1],
         [CODE], [WRITE, 0], [STATE]]


def code_told(words):
    return [len(words)] + [w + 1 for w in sorted(words)] + [0] * (24 - len(words))


class StateTest(AskedTest):
    def test_behind_a_start(self):
        for n in range(2, 11):
            self.assertEqual(last([[START, n], [STATE]]), [0, n, 0, 0])

    def test_in_its_order(self):
        calls = forced(7, [1, 2, 3, 4, 5]) + [[UNDO], [UNDO]]
        self.assertEqual(last(calls + [[STATE]]), [3, 7, 3, 2])

    def test_words_are_no_changes(self):
        self.assertEqual(last([[START, 6], [TAKE, 0], [STATE]]), [10, 6, 1, 0])
        self.assertEqual(last([[START, 6], [TAKE, 0], [CLEAR], [STATE]]), [0, 6, 2, 0])
        self.assertEqual(last(forced(10, range(24)) + [[STATE]]), [24, 10, 20, 0])

    def test_it_changes_nothing(self):
        self.assert_leaves_all(forced(4, [0, 1]) + [[UNDO]], [STATE])


class ChangeTest(AskedTest):
    def assert_changes(self, calls, many):
        self.assertEqual(last(calls + [[STATE]])[2:], [many, 0], calls)

    def test_each_call_of_point_2_that_is_not_refused_is_one(self):
        self.assert_changes([[START, 4]], 0)
        self.assert_changes([[START, 4], [ADD, 0]], 1)
        self.assert_changes([[START, 4], [FORCE, 0]], 1)
        self.assert_changes([[START, 4], [ADD, 0], [DROP, 0]], 2)
        self.assert_changes([[START, 4], [TAKE, 0]], 1)
        self.assert_changes([[START, 4], [GROW]], 1)
        self.assert_changes([[START, 4], [GROW], [CLEAR]], 2)

    def test_a_refused_one_is_none(self):
        for call in ([ADD, 16], [ADD, 0], [ADD, 1], [FORCE, 16], [FORCE, 0], [DROP, 16], [DROP, 1], [TAKE, 5],
                     [TAKE, 0], [GROW]):
            self.assertLess(last([[START, 4], [TAKE, 0], call])[0], 0)
            self.assert_changes([[START, 4], [TAKE, 0], call], 1)
        self.assert_changes([[START, 4], [CLEAR]], 0)

    def test_a_look_is_none(self):
        for call in LOOKS:
            self.assert_changes([[START, 4], [ADD, 0], call], 1)
            self.assert_leaves_all(forced(4, [0, 15, 3]) + [[UNDO]], call)


class UndoTest(AskedTest):
    def test_each_change_is_taken_back_and_done_again(self):
        for before in ([0], [0, 15]):
            for call in ([ADD, 3], [FORCE, 1], [DROP, 0], [TAKE, 1], [GROW], [CLEAR]):
                calls = forced(4, before)
                many = len(before)
                changed = last(calls + [call, [CODE]])
                self.assertNotEqual(changed, code_told(before))
                self.assertEqual(asked_behind(calls + [call], [[UNDO], [CODE], [STATE], [AGAIN], [CODE], [STATE]]),
                                 [[many], code_told(before), [many, 4, many, 1], [0], changed,
                                  [changed[0], 4, many + 1, 0]])

    def test_there_is_none(self):
        for n in range(2, 11):
            self.assert_refused([[START, n]], [UNDO], -2)
            self.assert_refused([[START, n]], [AGAIN], -2)
            self.assert_refused(forced(n, [1]), [AGAIN], -2)
            self.assert_refused(forced(n, [1]) + [[UNDO]], [UNDO], -2)
            self.assert_refused(forced(n, [1]) + [[UNDO], [AGAIN]], [AGAIN], -2)

    def test_to_both_ends_and_one_further(self):
        for many in (1, 2, 19, 20, 21, 22, 24):
            kept = min(many, 20)
            calls = forced(5, range(many))
            told = asked_behind(calls, [[UNDO], [CODE], [STATE]] * kept + [[UNDO], [CODE], [STATE]])
            for step in range(1, kept + 1):
                left = many - step
                self.assertEqual(told[3 * step - 3:3 * step],
                                 [[kept - step], code_told(range(left)), [left, 5, kept - step, step]])
            first = many - kept
            self.assertEqual(told[-3:], [[-2], code_told(range(first)), [first, 5, 0, kept]])
            calls += [[UNDO]] * (kept + 1)
            told = asked_behind(calls, [[AGAIN], [CODE], [STATE]] * (kept + 1))
            for step in range(1, kept + 1):
                there = first + step
                self.assertEqual(told[3 * step - 3:3 * step],
                                 [[kept - step], code_told(range(there)), [there, 5, step, kept - step]])
            self.assertEqual(told[-3:], [[-2], code_told(range(many)), [many, 5, kept, 0]])

    def test_many_more_changes_than_20(self):
        changes = [[FORCE, 0]] + [[DROP, 0], [FORCE, 0]] * 100
        self.assertEqual(last([[START, 3]] + changes + [[STATE]]), [1, 3, 20, 0])
        told = ask([[START, 3]] + changes + [[UNDO]] * 21)[-21:]
        self.assertEqual(told, [[many] for many in range(19, -1, -1)] + [[-2]])

    def test_a_change_behind_20_that_were_done_again(self):
        calls = forced(5, range(22)) + [[UNDO]] * 20 + [[AGAIN]] * 20 + [[DROP, 0]]
        self.assertEqual(asked_behind(calls, [[STATE]] + [[UNDO]] * 20 + [[CODE]])[0], [21, 5, 20, 0])
        # The one more pushes the oldest one out: 3 of the words stay.
        self.assertEqual(asked_behind(calls, [[UNDO]] * 21 + [[CODE]])[-2:], [[-2], code_told(range(3))])

    def test_there_and_back_over_and_over(self):
        calls = forced(5, [0, 7, 9])
        self.assertEqual(asked_behind(calls, [[UNDO], [AGAIN]] * 100 + [[CODE], [STATE]])[-2:],
                         [code_told([0, 7, 9]), [3, 5, 3, 0]])

    def test_looks_are_told_of_the_code_that_there_is(self):
        calls = forced(4, [3, 5])
        self.assertEqual(asked_behind(calls, [[UNDO], [SAFE], [MEND, 1], [WRITE, 1], [AGAIN], [SAFE], [MEND, 1],
                                              [WRITE, 1]]),
                         [[1], [1], [3], [-2], [0], [0], [-16], [5, 0, 1, 0, 1, 0, 0, 0, 0, 0, 0]])


class AnotherChangeTest(AskedTest):
    def test_another_change_ends_what_could_be_done_again(self):
        for call in ([ADD, 3], [FORCE, 1], [DROP, 0], [TAKE, 1], [GROW], [CLEAR]):
            calls = forced(4, [0, 15, 9]) + [[UNDO], [UNDO], call]
            self.assertGreaterEqual(last(calls)[0], 0)
            self.assertEqual(last(calls + [[STATE]])[2:], [2, 0])
            self.assertEqual(last(calls + [[AGAIN]]), [-2])
            self.assertEqual(asked_behind(calls, [[UNDO], [CODE], [UNDO], [CODE], [UNDO]]),
                             [[1], code_told([0]), [0], code_told([]), [-2]])

    def test_the_same_change_ends_it_too(self):
        calls = forced(4, [0, 15, 9]) + [[UNDO], [UNDO], [FORCE, 15]]
        self.assertEqual(asked_behind(calls, [[STATE], [AGAIN]]), [[2, 4, 2, 0], [-2]])

    def test_a_refused_one_does_not(self):
        calls = forced(4, [0, 15, 9]) + [[UNDO], [UNDO]]
        for call, refusal in (([ADD, 16], -2), ([ADD, 0], -17), ([ADD, 1], -33), ([FORCE, GREATEST], -2),
                              ([FORCE, 0], -17), ([DROP, 16], -2), ([DROP, 15], -6), ([TAKE, 5], -22)):
            self.assert_refused(calls, call, refusal)
            self.assertEqual(asked_behind(calls + [call], [[STATE], [AGAIN], [AGAIN], [AGAIN], [CODE]]),
                             [[1, 4, 1, 2], [1], [0], [-2], code_told([0, 9, 15])])
        self.assert_refused(calls + [[UNDO]], [CLEAR], -17)
        self.assert_refused([[START, 4], [TAKE, 0], [CLEAR], [UNDO]], [TAKE, 0], -17)
        self.assert_refused([[START, 4], [GROW], [CLEAR], [UNDO]], [GROW], -17)
        self.assert_refused(forced(4, [0, 1, 2]) + [[UNDO]], [GROW], -33)
        self.assert_refused(forced(6, [0, 1, 2]) + [[UNDO]], [GROW], -75)
        self.assert_refused(forced(8, [0, 1, 2]) + [[UNDO]], [TAKE, 0], -28)
        self.assert_refused(forced(8, range(24)) + [[DROP, 0], [UNDO]], [FORCE, 24], -28)


class StartTest(AskedTest):
    def test_a_start_leaves_no_changes(self):
        for n in (4, 7):
            for back in (0, 1, 2):
                calls = forced(4, [0, 15]) + [[UNDO]] * back + [[START, n]]
                self.assertEqual(last(calls), [0])
                self.assertEqual(asked_behind(calls, [[STATE], [CODE], [UNDO], [AGAIN], [STATE]]),
                                 [[0, n, 0, 0], code_told([]), [-2], [-2], [0, n, 0, 0]])

    def test_a_refused_start_leaves_all(self):
        for n in (0, 1, 11, GREATEST):
            for back in (0, 1, 2):
                calls = forced(4, [0, 15]) + [[UNDO]] * back
                self.assert_refused(calls, [START, n], -22)
                self.assertEqual(last(calls + [[START, n], [STATE]]), [2 - back, 4, 2 - back, back])
                self.assertEqual(last(calls + [[START, n], [AGAIN]]), [back - 1] if back else [-2])


class RowsOfChangesTest(AskedTest):
    def test_as_the_plain_one_answers(self):
        source = random.Random(7)
        for round_number in range(60):
            n = source.choice([2, 3, 4, 5])
            calls = [[START, n]]
            for step in range(80):
                change = source.choice([[ADD, source.randrange(2 ** n)], [FORCE, source.randrange(2 ** n)],
                                        [DROP, source.randrange(2 ** n)], [TAKE, source.randrange(n + 2)], [GROW],
                                        [CLEAR]])
                back = source.choice([[UNDO]] * source.randrange(1, 9) + [[AGAIN]])
                calls += [change] * source.randrange(2) + [back] * source.choice([0, 0, 1, 5]) + [[STATE], [CODE]]
            self.assertEqual(ask(calls), plain.play(calls), calls)


if __name__ == "__main__":
    unittest.main()
