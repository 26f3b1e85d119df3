"""Point 5: what was lost is put back, what was gained is taken out, by the code or by a class."""

import unittest

import plain
from asked import (BACK, CLEAR, DROP, GREATEST, MEND, MENDG, OUT, START, TAKE, UNDO, AskedTest, ask, asked_behind,
                   forced, last)
from plain import some_codes, texts


class MendTest(AskedTest):
    def assert_mends(self, which, more, comes):
        """Every word of the other length is mended as the plain way does it."""
        for n in range(2, 11):
            for words in some_codes(n):
                told = asked_behind(forced(n, words), [[which, s] for s in range(2 ** (n + more))])
                came = [comes(w) for w in sorted(texts(words, n))]
                there = dict(zip(came, sorted(words)))
                for s, answer in zip(plain.all_words(n + more), told):
                    of = [there[some] for some in there if s in some]
                    self.assertEqual(answer, of if len(of) == 1 else [-16] if of else [-33], (n, words, s))

    def test_lost(self):
        self.assert_mends(MEND, -1, lambda w: frozenset(plain.lost(w)))

    def test_gained(self):
        self.assert_mends(MENDG, 1, lambda w: frozenset(plain.gained(w)))

    def test_lost_by_hand(self):
        # 0011 and 1100: 011 came of the one, 110 of the other, 010 of none.
        calls = forced(4, [12, 3])
        self.assertEqual(asked_behind(calls, [[MEND, 3], [MEND, 1], [MEND, 6], [MEND, 2]]), [[3], [3], [12], [-33]])
        # 0011 and 0101 both become 001 and 011; 101 comes of 0101 alone.
        self.assertEqual(asked_behind(forced(4, [3, 5]), [[MEND, 1], [MEND, 3], [MEND, 5], [MEND, 7]]),
                         [[-16], [-16], [5], [-33]])

    def test_gained_by_hand(self):
        # 01 becomes 001, 010, 011, 101; 10 becomes 010, 100, 101, 110.
        self.assertEqual(asked_behind(forced(2, [2, 1]), [[MENDG, s] for s in range(8)]),
                         [[-33], [1], [-16], [1], [2], [-16], [2], [-33]])

    def test_the_word_0_is_told_as_it_is(self):
        for n in range(2, 11):
            self.assertEqual(asked_behind(forced(n, [0]), [[MEND, 0], [MENDG, 0], [MENDG, 1], [MENDG, 2 ** n]]),
                             [[0], [0], [0], [0]])

    def test_a_word_that_comes_in_more_than_one_way_comes_of_one(self):
        for n in range(2, 11):
            top = 2 ** n - 1
            self.assertEqual(asked_behind(forced(n, [top]), [[MEND, top // 2], [MENDG, 2 * top + 1]]), [[top], [top]])

    def test_no_code(self):
        for n in range(2, 11):
            for call in ([MEND, 0], [MEND, 2 ** (n - 1) - 1], [MENDG, 0], [MENDG, 2 ** (n + 1) - 1]):
                self.assert_refused([[START, n]], call, -33)
                self.assert_refused(forced(n, [0]) + [[CLEAR]], call, -33)

    def test_behind_changes(self):
        calls = forced(4, [3, 5])
        self.assertEqual(asked_behind(calls, [[DROP, 5], [MEND, 1], [UNDO], [MEND, 1], [UNDO], [MEND, 1], [UNDO],
                                              [MEND, 1]])[1::2], [[3], [-16], [3], [-33]])

    def test_no_such_word(self):
        for n in range(2, 11):
            # With all words, or none, anything else would be told otherwise.
            for calls in ([[START, n]], forced(n, range(min(24, 2 ** n)))):
                for s in (2 ** (n - 1), 2 ** n - 1, 2 ** n, GREATEST):
                    self.assert_refused(calls, [MEND, s], -2)
                for s in (2 ** (n + 1), 2 ** (n + 2), GREATEST):
                    self.assert_refused(calls, [MENDG, s], -2)
                self.assertNotEqual(last(calls + [[MEND, 2 ** (n - 1) - 1]]), [-2])
                self.assertNotEqual(last(calls + [[MENDG, 2 ** (n + 1) - 1]]), [-2])

    def test_they_change_nothing(self):
        calls = forced(4, [3, 5, 12]) + [[UNDO]]
        for call in ([MEND, 5], [MEND, 1], [MEND, 7], [MENDG, 5], [MENDG, 31], [MENDG, 6]):
            self.assert_leaves_all(calls, call)


class ClassTest(AskedTest):
    def assert_put_right(self, which, more, comes):
        for n in range(2, 11):
            for a in range(n + 1):
                there = {}
                for w in plain.class_words(n, a):
                    for s in comes(w):
                        self.assertNotIn(s, there)
                        there[s] = plain.number(w)
                told = asked_behind([[START, n]], [[which, a, s] for s in range(2 ** (n + more))])
                self.assertEqual(told, [[there.get(s, -33)] for s in plain.all_words(n + more)], (n, a))

    def test_back(self):
        self.assert_put_right(BACK, -1, plain.lost)

    def test_out(self):
        self.assert_put_right(OUT, 1, plain.gained)

    def test_by_hand(self):
        # The class 0 of two letters is 00 and 11, the class 1 is 10, the class 2 is 01.
        self.assertEqual(ask([[START, 2], [BACK, 0, 0], [BACK, 0, 1], [BACK, 1, 0], [BACK, 1, 1], [BACK, 2, 0],
                              [BACK, 2, 1]])[1:], [[0], [3], [2], [2], [1], [1]])
        self.assertEqual(ask([[START, 2]] + [[OUT, 0, s] for s in range(8)])[1:],
                         [[0], [0], [0], [3], [0], [3], [3], [3]])
        self.assertEqual(ask([[START, 2]] + [[OUT, 1, s] for s in range(8)])[1:],
                         [[-33], [-33], [2], [-33], [2], [2], [2], [-33]])

    def test_whatever_the_code_is(self):
        for calls in ([[START, 4]], [[START, 4], [TAKE, 1]], forced(4, [0, 1, 2]), forced(4, [3]) + [[UNDO]]):
            self.assertEqual(asked_behind(calls, [[BACK, 4, 5], [BACK, 0, 2], [OUT, 4, 21], [OUT, 0, 14]]),
                             asked_behind([[START, 4]], [[BACK, 4, 5], [BACK, 0, 2], [OUT, 4, 21], [OUT, 0, 14]]))
            for call in ([BACK, 0, 2], [OUT, 0, 14]):
                self.assert_leaves_all(calls, call)
        self.assertEqual(ask([[START, 4], [BACK, 0, 2], [OUT, 0, 14]])[1:], [[6], [6]])

    def test_no_such_class(self):
        for n in range(2, 11):
            self.assertNotEqual(last([[START, n], [BACK, n, 0]]), [-22])
            self.assertNotEqual(last([[START, n], [OUT, n, 0]]), [-22])
            for a in (n + 1, n + 2, 2 * n + 2, GREATEST):
                self.assert_refused(forced(n, [0]), [BACK, a, 0], -22)
                self.assert_refused(forced(n, [0]), [BACK, a, 2 ** (n - 1) - 1], -22)
                self.assert_refused(forced(n, [0]), [OUT, a, 0], -22)
                self.assert_refused(forced(n, [0]), [OUT, a, 2 ** (n + 1) - 1], -22)

    def test_no_such_word_is_told_first(self):
        for n in range(2, 11):
            for a in (0, n, n + 1, GREATEST):
                for s in (2 ** (n - 1), 2 ** n - 1, 2 ** n, GREATEST):
                    self.assert_refused(forced(n, [0]), [BACK, a, s], -2)
                for s in (2 ** (n + 1), 2 ** (n + 2), GREATEST):
                    self.assert_refused(forced(n, [0]), [OUT, a, s], -2)

    def test_it_comes_of_none(self):
        self.assert_refused(forced(2, [0]), [OUT, 1, 0], -33)
        # With three letters 00 comes of 000, 001, 010 and 100 alone, of the classes 0, 3, 2 and 1.
        self.assertEqual(ask([[START, 3]] + [[BACK, a, 0] for a in range(4)])[1:], [[0], [4], [2], [1]])
        # With four letters 111 comes of 0111, 1011, 1101, 1110 and 1111: 9, 8, 7, 6 and 10.
        self.assertEqual(ask([[START, 4]] + [[BACK, a, 7] for a in range(5)])[1:], [[15], [14], [13], [11], [7]])
        # 00000 comes of 0000 alone.
        self.assertEqual(ask([[START, 4]] + [[OUT, a, 0] for a in range(5)])[1:], [[0], [-33], [-33], [-33], [-33]])


if __name__ == "__main__":
    unittest.main()
