"""Point 3: the calls that look at words and classes."""

import unittest

import plain
from asked import (CLASS, GAINED, GAINING, GREATEST, LARGEST, LOSING, LOST, RUNS, START, WEIGHT, ask,
                   asked_behind, code_behind, forced, last)


def asked_of_words(n, calls):
    """What the calls answer behind a start."""
    return asked_behind([[START, n]], calls)


class EachWordTest(unittest.TestCase):
    def assert_each(self, which, answer):
        for n in range(2, 11):
            texts = plain.all_words(n)
            told = asked_of_words(n, [[which, w] for w in range(2 ** n)])
            self.assertEqual(told, [answer(text, n) for text in texts], n)

    def test_lost(self):
        self.assert_each(LOST, lambda w, n: [len(plain.lost(w))] + plain.listed(plain.lost(w), 10))

    def test_gained(self):
        self.assert_each(GAINED, lambda w, n: [n + 2] + plain.listed(plain.gained(w), 12))

    def test_runs(self):
        self.assert_each(RUNS, lambda w, n: [plain.runs(w)])

    def test_weight(self):
        self.assert_each(WEIGHT, lambda w, n: [plain.weight(w), plain.weight(w) % (n + 1)])

    def test_as_many_are_lost_as_there_are_runs(self):
        for n in range(2, 11):
            some = list(range(0, 2 ** n, 3))
            lost = asked_of_words(n, [[LOST, w] for w in some])
            runs = asked_of_words(n, [[RUNS, w] for w in some])
            self.assertEqual([answer[0] for answer in lost], [answer[0] for answer in runs])


class LostTest(unittest.TestCase):
    def test_by_hand(self):
        # 00101 loses a letter to 0101, 0001, 0011 and 0010.
        self.assertEqual(last([[START, 5], [LOST, 5]]), [4, 2, 3, 4, 6, 0, 0, 0, 0, 0, 0])
        self.assertEqual(last([[START, 2], [LOST, 1]]), [2, 1, 2, 0, 0, 0, 0, 0, 0, 0, 0])
        self.assertEqual(last([[START, 2], [LOST, 3]]), [1, 2, 0, 0, 0, 0, 0, 0, 0, 0, 0])

    def test_no_such_word(self):
        self.assertEqual(last([[START, 5], [LOST, 32]]), [-2])
        self.assertEqual(last([[START, 5], [LOST, GREATEST]]), [-2])


class GainedTest(unittest.TestCase):
    def test_by_hand(self):
        # 00 becomes 000, 001, 010 and 100.
        self.assertEqual(last([[START, 2], [GAINED, 0]]), [4, 1, 2, 3, 5, 0, 0, 0, 0, 0, 0, 0, 0])
        self.assertEqual(last([[START, 10], [GAINED, 1023]])[-1], 2048)

    def test_no_such_word(self):
        self.assertEqual(last([[START, 2], [GAINED, 4]]), [-2])
        self.assertEqual(last([[START, 2], [GAINED, GREATEST]]), [-2])


class LosingTest(unittest.TestCase):
    def test_by_hand(self):
        # 1011
        self.assertEqual(ask([[START, 4], [LOSING, 11, 0], [LOSING, 11, 1], [LOSING, 11, 2], [LOSING, 11, 3]]),
                         [[0], [3], [7], [5], [5]])

    def test_each_place(self):
        for n in range(2, 11):
            pairs = [(w, i) for w in range(0, 2 ** n, 5) for i in range(n)]
            told = asked_of_words(n, [[LOSING, w, i] for w, i in pairs])
            spelled = [(plain.spelled(w, n), i) for w, i in pairs]
            self.assertEqual(told, [[plain.number(w[:i] + w[i + 1:])] for w, i in spelled])

    def test_no_such_place(self):
        for n in range(2, 11):
            self.assertEqual(last([[START, n], [LOSING, 1, n - 1]]), [0])
            for i in (n, n + 1, 32, 2147483648, GREATEST):
                self.assertEqual(last([[START, n], [LOSING, 1, i]]), [-22])

    def test_no_such_word_is_told_first(self):
        self.assertEqual(last([[START, 4], [LOSING, 16, 4]]), [-2])
        self.assertEqual(last([[START, 4], [LOSING, GREATEST, GREATEST]]), [-2])
        self.assertEqual(last([[START, 4], [LOSING, 16, 0]]), [-2])


class GainingTest(unittest.TestCase):
    def test_by_hand(self):
        # 10 gains a letter: 110, 110, 101; 010, 100, 100.
        self.assertEqual(ask([[START, 2], [GAINING, 2, 0, 1], [GAINING, 2, 1, 1], [GAINING, 2, 2, 1],
                              [GAINING, 2, 0, 0], [GAINING, 2, 1, 0], [GAINING, 2, 2, 0]]),
                         [[0], [6], [6], [5], [2], [4], [4]])

    def test_each_place(self):
        for n in range(2, 11):
            rows = [(w, i, x) for w in range(0, 2 ** n, 7) for i in range(n + 1) for x in (0, 1)]
            told = asked_of_words(n, [[GAINING, w, i, x] for w, i, x in rows])
            spelled = [(plain.spelled(w, n), i, str(x)) for w, i, x in rows]
            self.assertEqual(told, [[plain.number(w[:i] + x + w[i:])] for w, i, x in spelled])

    def test_no_such_place_or_letter(self):
        for n in range(2, 11):
            self.assertEqual(last([[START, n], [GAINING, 1, n, 1]]), [3])
            for i, x in ((n + 1, 0), (n + 1, 1), (GREATEST, 0), (0, 2), (n, 2), (n - 1, GREATEST),
                         (n + 1, 2), (GREATEST, GREATEST)):
                self.assertEqual(last([[START, n], [GAINING, 1, i, x]]), [-22], (n, i, x))

    def test_no_such_word_is_told_first(self):
        for i, x in ((0, 0), (5, 0), (0, 2), (GREATEST, GREATEST)):
            self.assertEqual(last([[START, 4], [GAINING, 16, i, x]]), [-2])
            self.assertEqual(last([[START, 4], [GAINING, GREATEST, i, x]]), [-2])


class RunsTest(unittest.TestCase):
    def test_by_hand(self):
        self.assertEqual(ask([[START, 6], [RUNS, 0], [RUNS, 63], [RUNS, 0b010101], [RUNS, 0b110010], [RUNS, 1],
                              [RUNS, 32]]), [[0], [1], [1], [6], [4], [2], [2]])

    def test_no_such_word(self):
        self.assertEqual(last([[START, 6], [RUNS, 64]]), [-2])
        self.assertEqual(last([[START, 6], [RUNS, GREATEST]]), [-2])


class WeightTest(unittest.TestCase):
    def test_places_count_from_the_first_letter(self):
        self.assertEqual(ask([[START, 5], [WEIGHT, 0b10000], [WEIGHT, 0b00001], [WEIGHT, 0b01010], [WEIGHT, 31],
                              [WEIGHT, 0]]), [[0], [1, 1], [5, 5], [6, 0], [15, 3], [0, 0]])

    def test_no_such_word(self):
        self.assertEqual(last([[START, 5], [WEIGHT, 32]]), [-2])
        self.assertEqual(last([[START, 5], [WEIGHT, GREATEST]]), [-2])


class ClassTest(unittest.TestCase):
    def test_by_hand(self):
        # Words of two letters by class: 00 and 11; 10; 01. They are told as they are, not as a list.
        self.assertEqual(ask([[START, 2], [CLASS, 0], [CLASS, 1], [CLASS, 2]]), [[0], [2, 0, 3], [1, 2, 2], [1, 1, 1]])

    def test_each_class(self):
        for n in range(2, 11):
            for a in range(n + 1):
                words = [plain.number(text) for text in plain.class_words(n, a)]
                self.assertEqual(last([[START, n], [CLASS, a]]), [len(words), words[0], words[-1]])

    def test_no_such_class(self):
        for n in range(2, 11):
            for a in (n + 1, n + 2, 2147483648, GREATEST):
                self.assertEqual(last([[START, n], [CLASS, a]]), [-22])

    def test_classes_part_all_words(self):
        for n in range(2, 11):
            told = ask([[START, n]] + [[CLASS, a] for a in range(n + 1)])[1:]
            self.assertEqual(sum(answer[0] for answer in told), 2 ** n)
            self.assertEqual(max(answer[0] for answer in told), told[0][0])
            self.assertGreaterEqual(told[0][0] * (n + 1), 2 ** n)


class LargestTest(unittest.TestCase):
    def test_each_length(self):
        for n, many in ((2, 2), (3, 2), (4, 4), (5, 6), (6, 10), (7, 16), (8, 30), (9, 52), (10, 94)):
            self.assertEqual(last([[START, n], [LARGEST]]), [0, many])

    def test_of_like_ones_the_least(self):
        # With three letters each class has two words.
        self.assertEqual({last([[START, 3], [CLASS, a]])[0] for a in range(4)}, {2})
        self.assertEqual(last([[START, 3], [LARGEST]]), [0, 2])


class NothingChangesTest(unittest.TestCase):
    def test_a_look_leaves_the_code(self):
        calls = forced(4, [0, 1, 9])
        for call in ([LOST, 9], [GAINED, 9], [LOSING, 9, 1], [GAINING, 9, 1, 1], [RUNS, 9], [WEIGHT, 9], [CLASS, 1],
                     [LARGEST], [LOST, 16], [GAINED, 16], [LOSING, 9, 4], [GAINING, 9, 5, 0], [RUNS, 16],
                     [WEIGHT, 16], [CLASS, 5]):
            self.assertEqual(code_behind(calls + [call], 4), [0, 1, 9])


if __name__ == "__main__":
    unittest.main()
