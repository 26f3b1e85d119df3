"""Point 2: the calls that change the code."""

import unittest
from itertools import combinations

import plain
from asked import (ADD, CLEAR, DROP, FORCE, GREATEST, GROW, START, TAKE, AskedTest, ask, code_behind, forced, last)


class AddTest(AskedTest):
    def test_tells_how_many_words(self):
        calls = [[START, 4], [ADD, 15], [ADD, 0], [ADD, 3]]
        self.assertEqual(ask(calls), [[0], [1], [2], [3]])
        self.assertEqual(code_behind(calls, 4), [0, 3, 15])

    def test_refuses_just_what_is_alike_by_losing(self):
        for n in (2, 3, 4, 5):
            for u, v in combinations(range(2 ** n), 2):
                alike = plain.alike(plain.spelled(u, n), plain.spelled(v, n))
                self.assertEqual(last([[START, n], [ADD, u], [ADD, v]]), [-33] if alike else [2], (n, u, v))

    def test_is_alike_with_any_word_of_the_code(self):
        for w in (1, 14, 7):
            self.assert_refused([[START, 4], [ADD, 0], [ADD, 15], [ADD, 3]], [ADD, w], -33)

    def test_refuses_what_is_in_the_code_ahead_of_what_is_alike(self):
        self.assert_refused(forced(4, [0, 1]), [ADD, 1], -17)

    def test_a_code_of_24_words(self):
        full = forced(10, range(24))
        self.assertEqual(last(full), [24, last(full)[1]])
        self.assert_refused(full, [ADD, 1023], -28)
        # 24 is alike with some of these words too: that there are 24 of them is told ahead of it.
        self.assertGreater(last(forced(10, list(range(23)) + [24]))[1], 0)
        self.assert_refused(full, [ADD, 24], -28)
        self.assert_refused(full, [ADD, 23], -17)
        self.assert_refused(full, [ADD, 1024], -2)

    def test_the_24th_is_taken(self):
        self.assertEqual(last(forced(10, range(23)) + [[ADD, 1023]]), [24])

    def test_no_such_word(self):
        self.assert_refused(forced(3, [0, 7]), [ADD, 8], -2)
        self.assert_refused(forced(3, [0, 7]), [ADD, GREATEST], -2)


class ForceTest(AskedTest):
    def test_tells_with_how_many_others_it_is_alike(self):
        self.assertEqual(ask([[START, 3], [FORCE, 0], [FORCE, 7], [FORCE, 1], [FORCE, 2], [FORCE, 5]]),
                         [[0], [1, 0], [2, 0], [3, 1], [4, 2], [5, 3]])

    def test_takes_what_is_alike_into_the_code(self):
        self.assertEqual(code_behind([[START, 3], [FORCE, 2], [FORCE, 1], [FORCE, 0]], 3), [0, 1, 2])

    def test_every_word_with_n_of_10(self):
        words = [0, 1, 2, 3, 511, 512, 1022, 1023, 341, 682]
        for w in range(0, 1024, 7):
            if w not in words:
                alike = sum(plain.alike(plain.spelled(w, 10), plain.spelled(v, 10)) for v in words)
                self.assertEqual(last(forced(10, words + [w])), [11, alike])

    def test_refusals(self):
        full = forced(6, range(24))
        self.assert_refused(full, [FORCE, 64], -2)
        self.assert_refused(full, [FORCE, GREATEST], -2)
        self.assert_refused(full, [FORCE, 0], -17)
        self.assert_refused(full, [FORCE, 24], -28)
        self.assert_refused(full, [FORCE, 63], -28)
        self.assert_refused(forced(6, [0]), [FORCE, 0], -17)
        self.assertEqual(last(forced(6, range(23)) + [[FORCE, 63]])[0], 24)


class DropTest(AskedTest):
    def test_tells_how_many_are_left(self):
        calls = [[START, 4], [ADD, 0], [ADD, 3], [ADD, 15], [DROP, 3], [DROP, 0]]
        self.assertEqual(ask(calls)[-2:], [[2], [1]])
        self.assertEqual(code_behind(calls, 4), [15])
        self.assertEqual(last(calls + [[DROP, 15]]), [0])

    def test_refusals(self):
        self.assert_refused(forced(4, [0, 15]), [DROP, 3], -6)
        self.assert_refused(forced(4, [0, 15]), [DROP, 16], -2)
        self.assert_refused(forced(4, [0, 15]), [DROP, GREATEST], -2)
        self.assert_refused([[START, 4]], [DROP, 0], -6)
        self.assert_refused([[START, 4], [ADD, 0], [DROP, 0]], [DROP, 0], -6)

    def test_makes_room(self):
        self.assertEqual(last(forced(6, range(24)) + [[DROP, 5], [FORCE, 63]])[0], 24)
        self.assertEqual(last([[START, 4], [ADD, 0], [DROP, 0], [ADD, 1]]), [1])


class TakeTest(AskedTest):
    def test_the_code_is_the_class(self):
        for n in range(2, 8):
            for a in range(n + 1):
                words = [plain.number(text) for text in plain.class_words(n, a)]
                self.assertEqual(last([[START, n], [TAKE, a]]), [len(words)])
                self.assertEqual(code_behind([[START, n], [TAKE, a]], n), words)

    def test_what_was_in_the_code_is_not_any_more(self):
        calls = [[START, 4], [ADD, 1], [TAKE, 0]]
        self.assertEqual(ask(calls), [[0], [1], [4]])
        self.assertNotIn(1, code_behind(calls, 4))

    def test_no_such_class(self):
        for n in range(2, 11):
            for a in (n + 1, n + 2, GREATEST):
                self.assert_refused([[START, n], [ADD, 1]], [TAKE, a], -22)

    def test_a_class_of_more_than_24_words(self):
        for n in (8, 9, 10):
            for a in range(n + 1):
                self.assertGreater(len(plain.class_words(n, a)), 24)
                self.assertEqual(last([[START, n], [TAKE, a]]), [-28])
            self.assert_refused([[START, n], [ADD, 1]], [TAKE, n], -28)

    def test_it_is_the_code_already(self):
        for n in range(2, 8):
            self.assert_refused([[START, n], [TAKE, n]], [TAKE, n], -17)
        # However it came to be that.
        self.assert_refused([[START, 2], [ADD, 3], [ADD, 0]], [TAKE, 0], -17)
        self.assertEqual(last([[START, 4], [TAKE, 0], [DROP, 0], [TAKE, 0]]), [4])


class GrowTest(AskedTest):
    def test_from_no_code(self):
        for n, words in ((2, [0, 3]), (3, [0, 3]), (4, [0, 3, 10, 15]), (5, [0, 3, 13, 18, 28, 31])):
            self.assertEqual(last([[START, n], [GROW]]), [len(words)])
            self.assertEqual(code_behind([[START, n], [GROW]], n), words)

    def assert_grown(self, n, code):
        best = sorted(plain.number(t) for t in plain.most(frozenset(plain.spelled(w, n) for w in code), n))
        calls = forced(n, code) + [[GROW]]
        if best == sorted(code):
            self.assert_refused(forced(n, code), [GROW], -17)
        else:
            self.assertEqual(last(calls), [len(best)])
            self.assertEqual(code_behind(calls, n), best)

    def test_from_each_safe_code_of_up_to_two_words(self):
        for n in (2, 3, 4, 5):
            for many in (1, 2):
                for code in combinations(range(2 ** n), many):
                    if plain.safe([plain.spelled(w, n) for w in code]):
                        self.assert_grown(n, code)

    def test_from_parts_of_classes(self):
        for a in range(6):
            words = [plain.number(text) for text in plain.class_words(5, a)]
            for at in range(len(words)):
                self.assert_grown(5, words[:at] + words[at + 1:])
            self.assert_grown(5, words)

    def test_more_than_5_letters(self):
        for n in range(6, 11):
            self.assert_refused(forced(n, [0]), [GROW], -75)
            self.assertEqual(last([[START, n], [GROW]]), [-75])
        self.assertEqual(last([[START, 5], [GROW]]), [6])

    def test_length_is_told_ahead_of_a_code_that_is_not_safe(self):
        self.assert_refused(forced(6, [0, 1]), [GROW], -75)

    def test_a_code_that_is_not_safe(self):
        for n in (2, 3, 4, 5):
            self.assert_refused(forced(n, [0, 1]), [GROW], -33)
        self.assert_refused(forced(5, range(24)), [GROW], -33)
        self.assertEqual(last(forced(5, [0, 1]) + [[DROP, 1], [GROW]]), [6])

    def test_it_is_the_safe_set_with_most_already(self):
        for n in (2, 3, 4, 5):
            self.assert_refused([[START, n], [GROW]], [GROW], -17)
        # One of as many words stays as it is, whichever it is: it must have all of the code.
        self.assert_refused(forced(2, [1]), [GROW], -17)


class ClearTest(AskedTest):
    def test_tells_how_many_there_were(self):
        self.assertEqual(last(forced(4, [0, 1, 2]) + [[CLEAR]]), [3])
        self.assertEqual(code_behind(forced(4, [0, 1, 2]) + [[CLEAR]], 4), [])
        self.assertEqual(last(forced(10, range(24)) + [[CLEAR]]), [24])

    def test_no_words(self):
        for n in range(2, 11):
            self.assert_refused([[START, n]], [CLEAR], -17)
        self.assert_refused(forced(4, [0]) + [[CLEAR]], [CLEAR], -17)
        self.assert_refused(forced(4, [0]) + [[DROP, 0]], [CLEAR], -17)


if __name__ == "__main__":
    unittest.main()
