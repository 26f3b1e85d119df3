"""Point 4: two words alike by losing and by gaining, and what comes of both."""

import unittest
from itertools import product

import plain
from asked import ALIKE, COMMON, GREATEST, START, UNDO, AskedTest, ask, asked_behind, forced, last


def pairs_of(n):
    """All pairs of words, or with many letters some of them: near ones, far ones, the edges."""
    if n <= 5:
        return list(product(range(2 ** n), repeat=2))
    top = 2 ** n - 1
    steps = (1, 2, 3, 2 ** (n - 1), 2 ** (n - 2), top // 3)
    some = range(0, 2 ** n, 1 + 2 ** (n - 6))
    return [(u, (u + step) % (top + 1)) for u in some for step in steps] + [(0, top), (top, 0), (top, top)]


class EachPairTest(AskedTest):
    def assert_each(self, which, answer):
        for n in range(2, 11):
            pairs = pairs_of(n)
            told = asked_behind([[START, n]], [[which, u, v] for u, v in pairs])
            self.assertEqual(told, [answer(plain.spelled(u, n), plain.spelled(v, n)) for u, v in pairs], n)

    def test_alike(self):
        self.assert_each(ALIKE, lambda u, v: [-22] if u == v else [plain.alike(u, v), plain.alike_by_gaining(u, v)])

    def test_common(self):
        def answer(u, v):
            both = plain.lost(u) & plain.lost(v)
            return [len(both)] + plain.listed(both, 10)

        self.assert_each(COMMON, answer)

    def test_whatever_the_code_is(self):
        for calls in ([[START, 4]], forced(4, [3, 5]), forced(4, [0, 15, 1]), forced(4, [3]) + [[UNDO]]):
            self.assertEqual(asked_behind(calls, [[ALIKE, 3, 5], [COMMON, 3, 5]]),
                             [[1, 1], [2, 2, 4] + [0] * 8])
            for call in ([ALIKE, 3, 5], [COMMON, 3, 5], [COMMON, 3, 3]):
                self.assert_leaves_all(calls, call)


class AlikeTest(AskedTest):
    def test_by_hand(self):
        # 0011 and 0101 both lose a letter to 001 and to 011; 0000 and 0011 share none.
        self.assertEqual(ask([[START, 4], [ALIKE, 3, 5], [ALIKE, 5, 3], [ALIKE, 0, 3], [ALIKE, 0, 1]])[1:],
                         [[1, 1], [1, 1], [0, 0], [1, 1]])
        self.assertEqual(ask([[START, 2], [ALIKE, 0, 3], [ALIKE, 1, 2]])[1:], [[0, 0], [1, 1]])

    def test_one_word_twice(self):
        for n in range(2, 11):
            for w in (0, 1, 2 ** n - 1):
                self.assert_refused(forced(n, [0]), [ALIKE, w, w], -22)

    def test_no_such_word_is_told_first(self):
        for n in range(2, 11):
            for w in (2 ** n, 2 ** (n + 1), GREATEST):
                for call in ([ALIKE, w, 0], [ALIKE, 0, w], [ALIKE, w, w]):
                    self.assert_refused(forced(n, [0]), call, -2)
            self.assertEqual(last([[START, n], [ALIKE, 2 ** n - 1, 2 ** n - 2]]), [1, 1])


class CommonTest(AskedTest):
    def test_by_hand(self):
        self.assertEqual(ask([[START, 4], [COMMON, 3, 5], [COMMON, 0, 3], [COMMON, 0, 1]])[1:],
                         [[2, 2, 4] + [0] * 8, [0] * 11, [1, 1] + [0] * 9])

    def test_one_word_twice_is_not_refused(self):
        self.assertEqual(last([[START, 10], [COMMON, 341, 341]]), last([[START, 10], [7, 341]]))
        for n in range(2, 11):
            self.assertEqual(last([[START, n], [COMMON, 0, 0]]), [1, 1] + [0] * 9)
            self.assertEqual(last([[START, n], [COMMON, 1, 1]]), [2, 1, 2] + [0] * 8)

    def test_no_such_word(self):
        for n in range(2, 11):
            for w in (2 ** n, 2 ** (n + 1), GREATEST):
                for call in ([COMMON, w, 0], [COMMON, 0, w], [COMMON, w, w]):
                    self.assert_refused(forced(n, [0]), call, -2)
            self.assertEqual(last([[START, n], [COMMON, 2 ** n - 1, 2 ** n - 1]]), [1, 2 ** (n - 1)] + [0] * 9)


if __name__ == "__main__":
    unittest.main()
