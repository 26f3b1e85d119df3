"""Point 1: what a change is, and that the last 20 can be taken back and done again."""

import unittest

from asked import (ADD, CLASS, CLEAR, DROP, FORCE, GAINED, GAINING, GROW, LARGEST, LOSING, LOST, RUNS, START, TAKE,
                   WEIGHT)

from lostletter.letters import answer_call
from lostletter.session import Session


def session_behind(calls):
    session = Session()
    for call in calls:
        answer_call(session, call[0], call[1:])
    return session


def counts(session):
    return len(session.history.earlier), len(session.history.later)


class ChangeTest(unittest.TestCase):
    def assert_changes(self, calls, many):
        self.assertEqual(counts(session_behind(calls)), (many, 0), calls)

    def test_each_call_of_point_2_that_is_not_refused_is_one(self):
        self.assert_changes([[START, 4]], 0)
        self.assert_changes([[START, 4], [ADD, 0]], 1)
        self.assert_changes([[START, 4], [FORCE, 0]], 1)
        self.assert_changes([[START, 4], [ADD, 0], [DROP, 0]], 2)
        self.assert_changes([[START, 4], [TAKE, 0]], 1)
        self.assert_changes([[START, 4], [GROW]], 1)
        self.assert_changes([[START, 4], [GROW], [CLEAR]], 2)

    def test_a_refused_one_is_none(self):
        for call in ([ADD, 16], [ADD, 0], [ADD, 1], [FORCE, 16], [FORCE, 0], [DROP, 16], [DROP, 1], [TAKE, 5],
                     [TAKE, 0], [GROW]):
            self.assert_changes([[START, 4], [TAKE, 0], call], 1)
        self.assert_changes([[START, 4], [CLEAR]], 0)

    def test_a_look_is_none(self):
        for call in ([LOST, 1], [GAINED, 1], [LOSING, 1, 0], [GAINING, 1, 0, 1], [RUNS, 1], [WEIGHT, 1], [CLASS, 1],
                     [LARGEST]):
            self.assert_changes([[START, 4], [ADD, 0], call], 1)

    def test_a_start_leaves_none(self):
        session = session_behind([[START, 4], [ADD, 0], [ADD, 15]])
        session.history.take_back()
        answer_call(session, START, [4])
        self.assertEqual(counts(session), (0, 0))

    def test_a_refused_start_leaves_all(self):
        session = session_behind([[START, 4], [ADD, 0], [ADD, 15]])
        session.history.take_back()
        answer_call(session, START, [11])
        self.assertEqual(counts(session), (1, 1))
        self.assertEqual(session.history.code, (0,))


class TakenBackTest(unittest.TestCase):
    def test_each_change_can_be_taken_back_and_done_again(self):
        before = [[START, 4], [ADD, 0]]
        for call in ([ADD, 15], [FORCE, 1], [DROP, 0], [TAKE, 1], [GROW], [CLEAR]):
            session = session_behind(before + [call])
            changed = session.history.code
            self.assertNotEqual(changed, (0,))
            self.assertTrue(session.history.take_back())
            self.assertEqual(session.history.code, (0,))
            self.assertTrue(session.history.do_again())
            self.assertEqual(session.history.code, changed)

    def test_there_may_be_none(self):
        session = session_behind([[START, 4]])
        self.assertFalse(session.history.take_back())
        self.assertFalse(session.history.do_again())
        self.assertEqual(session.history.code, ())

    def test_the_last_20_alone(self):
        for many in (19, 20, 21, 24):
            session = session_behind([[START, 5]] + [[FORCE, w] for w in range(many)])
            kept = min(many, 20)
            self.assertEqual(counts(session), (kept, 0))
            for step in range(kept):
                self.assertTrue(session.history.take_back())
                self.assertEqual(session.history.code, tuple(range(many - step - 1)))
            self.assertFalse(session.history.take_back())
            self.assertEqual(counts(session), (0, kept))
            for step in range(kept):
                self.assertTrue(session.history.do_again())
            self.assertFalse(session.history.do_again())
            self.assertEqual(session.history.code, tuple(range(many)))

    def test_another_change_ends_what_could_be_done_again(self):
        session = session_behind([[START, 4], [ADD, 0], [ADD, 15]])
        session.history.take_back()
        answer_call(session, FORCE, [1])
        self.assertEqual(counts(session), (2, 0))
        self.assertFalse(session.history.do_again())
        self.assertEqual(session.history.code, (0, 1))

    def test_a_refused_one_or_a_look_does_not(self):
        for call in ([ADD, 1], [ADD, 16], [DROP, 3], [TAKE, 9], [RUNS, 1], [LARGEST]):
            session = session_behind([[START, 4], [ADD, 0], [ADD, 15]])
            session.history.take_back()
            answer_call(session, call[0], call[1:])
            self.assertEqual(counts(session), (1, 1))
            self.assertTrue(session.history.do_again())
            self.assertEqual(session.history.code, (0, 15))


if __name__ == "__main__":
    unittest.main()
