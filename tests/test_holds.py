"""What holds over the whole program, row by row."""

import random
import unittest
from itertools import combinations

import plain
from asked import (ADD, AGAIN, ALIKE, BACK, CLASS, CLEAR, CODE, COMMON, DROP, FORCE, GAINED, GROW, LARGEST, LOST, MEND,
                   MENDG, MOST, OUT, RUNS, SAFE, START, STATE, TAKE, UNDO, WEIGHT, ask, asked_behind, forced, last)
from plain import safe_words


def words_told(answer):
    """The words of a list behind the answer's number."""
    return [told - 1 for told in answer[1:1 + answer[0]]]


def pairs_of(n):
    """All pairs of two different words, or with many letters those of some words with each other one."""
    if n <= 7:
        return list(combinations(range(2 ** n), 2))
    source = random.Random(n)
    firsts = [0, 1, 2 ** n - 1, 2 ** n // 3] + source.sample(range(2, 2 ** n - 1), 6)
    return [(u, v) for u in firsts for v in range(2 ** n) if u != v]


def safe_codes(n):
    """The classes, where the code can have as many words, and others of up to 24 words."""
    codes = [[plain.number(w) for w in plain.class_words(n, a)] for a in range(n + 1)]
    source = random.Random(n)
    others = [safe_words(source.sample(range(2 ** n), 2 ** n), n) for round_number in range(6)]
    return [words[:24] for words in codes] + others


class AsManyAsRunsTest(unittest.TestCase):
    def test_each_word(self):
        for n in range(2, 11):
            for w in range(2 ** n):
                lost, runs, gained = ask([[START, n], [LOST, w], [RUNS, w], [GAINED, w]])[1:]
                self.assertEqual(lost[0], runs[0], (n, w))
                self.assertEqual(len(set(words_told(lost))), runs[0], (n, w))
                self.assertEqual(gained[0], n + 2, (n, w))
                self.assertEqual(len(set(words_told(gained))), n + 2, (n, w))


class LostOrGainedTest(unittest.TestCase):
    def test_each_pair(self):
        for n in range(2, 11):
            told = asked_behind([[START, n]], [[ALIKE, u, v] for u, v in pairs_of(n)])
            for pair, answer in zip(pairs_of(n), told):
                self.assertEqual(answer[0], answer[1], (n, pair))
            self.assertEqual({answer[0] for answer in told}, {0, 1})


class ClassesTest(unittest.TestCase):
    def test_each_is_safe(self):
        for n in range(2, 8):
            for a in range(n + 1):
                self.assertEqual(last([[START, n], [TAKE, a], [SAFE]]), [1])
        for n in (8, 9, 10):
            for a in range(n + 1):
                seen = []
                calls = [[LOST, plain.number(w)] for w in plain.class_words(n, a)]
                for answer in asked_behind([[START, n]], calls):
                    seen += words_told(answer)
                self.assertEqual(len(seen), len(set(seen)), (n, a))

    def assert_put_right(self, comes, put_right):
        """Whatever comes of a word is put right by the word's class."""
        for n in range(2, 11):
            classes = [answer[1] for answer in asked_behind([[START, n]], [[WEIGHT, w] for w in range(2 ** n)])]
            told = asked_behind([[START, n]], [[comes, w] for w in range(2 ** n)])
            rows = [(w, s) for w, answer in enumerate(told) for s in words_told(answer)]
            found = asked_behind([[START, n]], [[put_right, classes[w], s] for w, s in rows])
            self.assertEqual(found, [[w] for w, s in rows], n)

    def test_what_is_lost_is_put_back(self):
        self.assert_put_right(LOST, BACK)

    def test_what_is_gained_is_taken_out(self):
        self.assert_put_right(GAINED, OUT)

    def test_they_part_all_words(self):
        for n in range(2, 11):
            told = asked_behind([[START, n]], [[CLASS, a] for a in range(n + 1)])
            classes = [answer[1] for answer in asked_behind([[START, n]], [[WEIGHT, w] for w in range(2 ** n)])]
            self.assertEqual([answer[0] for answer in told], [classes.count(a) for a in range(n + 1)])
            self.assertEqual(sum(answer[0] for answer in told), 2 ** n)
            if n < 8:
                codes = [words_told(last([[START, n], [TAKE, a], [CODE]])) for a in range(n + 1)]
                self.assertEqual(sorted(plain.flat(codes)), list(range(2 ** n)))

    def test_the_class_0_is_as_large_as_any(self):
        for n in range(2, 11):
            sizes = [answer[0] for answer in asked_behind([[START, n]], [[CLASS, a] for a in range(n + 1)])]
            self.assertEqual(max(sizes), sizes[0])
            self.assertGreaterEqual(sizes[0] * (n + 1), 2 ** n)
            self.assertEqual(last([[START, n], [LARGEST]]), [0, sizes[0]])


class MostTest(unittest.TestCase):
    def test_none_has_more(self):
        for n in (2, 3, 4, 5):
            for many in (0, 1, 2):
                for words in combinations(range(2 ** n), many):
                    if plain.safe(plain.texts(words, n)):
                        told = words_told(last(forced(n, words) + [[MOST]]))
                        self.assertTrue(set(words) <= set(told))
                        self.assertTrue(plain.safe(plain.texts(told, n)))
                        self.assertEqual(len(told), len(plain.most(plain.texts(words, n), n)))

    def test_no_class_has_more_than_the_most_of_all(self):
        for n in (2, 3, 4, 5):
            self.assertEqual(last([[START, n], [MOST]])[0], last([[START, n], [LARGEST]])[1])


class MendedTest(unittest.TestCase):
    def assert_mended(self, comes, mends):
        for n in range(2, 11):
            for words in safe_codes(n):
                calls = [[START, n]] + [[ADD, w] for w in words]
                self.assertEqual(last(calls + [[SAFE]]), [1])
                told = asked_behind(calls, [[comes, w] for w in words])
                rows = [(w, s) for w, answer in zip(words, told) for s in words_told(answer)]
                self.assertEqual(asked_behind(calls, [[mends, s] for w, s in rows]), [[w] for w, s in rows])

    def test_lost(self):
        self.assert_mended(LOST, MEND)

    def test_gained(self):
        self.assert_mended(GAINED, MENDG)


class TwoInCommonTest(unittest.TestCase):
    def test_each_pair(self):
        for n in range(2, 11):
            told = asked_behind([[START, n]], [[COMMON, u, v] for u, v in pairs_of(n)])
            self.assertEqual(max(answer[0] for answer in told), 2)
            for pair, answer in zip(pairs_of(n), told):
                self.assertLessEqual(answer[0], 2, (n, pair))
                self.assertEqual(answer[1 + answer[0]:], [0] * (10 - answer[0]))


class TakenBackTest(unittest.TestCase):
    def test_all_can_be_taken_back_and_done_again(self):
        source = random.Random(3)
        for n in list(range(2, 11)) * 4:
            calls = [[START, n]]
            codes = [last(calls + [[CODE]])]
            while len(codes) < 21:
                w = source.randrange(2 ** n)
                a = source.randrange(n + 1)
                call = source.choice([[ADD, w], [FORCE, w], [DROP, w], [TAKE, a], [GROW], [CLEAR]])
                if last(calls + [call])[0] >= 0:
                    calls.append(call)
                    codes.append(last(calls + [[CODE]]))
            self.assertEqual(last(calls + [[STATE]])[1:], [n, 20, 0])
            back = asked_behind(calls, [[CODE]] + [[UNDO], [CODE]] * 20)[::2]
            self.assertEqual(back, codes[::-1])
            ahead = asked_behind(calls + [[UNDO]] * 20, [[CODE]] + [[AGAIN], [CODE]] * 20)[::2]
            self.assertEqual(ahead, codes)


if __name__ == "__main__":
    unittest.main()
