import unittest

from tests.lines import BIG, UNFIT
from tests.lines import ask, grant, last, leave, pairs, state


class Ordinary(unittest.TestCase):
    def test_who_gave_and_took_several_rights(self):
        line = [grant(0, 1, 1, 1), grant(1, 2, 1, 1), grant(2, 3, 1, 0),
                grant(0, 2, 2, 1), grant(2, 1, 2, 1), grant(1, 4, 2, 0),
                grant(0, 3, 3, 1), grant(3, 4, 3, 0),
                grant(0, 1, 4, 0), leave(1)]
        self.assertEqual(last(*line), (6,))
        self.assertEqual([pairs(line, r) for r in range(1, 5)], [[], [(0, 2)], [(0, 3), (3, 4)], []])

    def test_what_others_gave_by_another_earlier_grant_stays(self):
        line = [grant(0, 1, 1, 1), grant(1, 2, 1, 1), grant(0, 2, 1, 1), grant(2, 3, 1, 0), leave(1)]
        self.assertEqual(last(*line), (2,))
        self.assertEqual(pairs(line, 1), [(0, 2), (2, 3)])

    def test_what_others_could_give_only_by_a_later_grant_falls(self):
        line = [grant(0, 1, 1, 1), grant(1, 2, 1, 1), grant(2, 3, 1, 0), grant(0, 2, 1, 1), leave(1)]
        self.assertEqual(last(*line), (3,))
        self.assertEqual(pairs(line, 1), [(0, 2)])

    def test_two_others_do_not_keep_it_alive(self):
        line = [grant(0, 1, 1, 1), grant(1, 2, 1, 1), grant(2, 3, 1, 1), grant(3, 2, 1, 1), grant(2, 3, 1, 1), leave(1)]
        self.assertEqual(last(*line), (5,))

    def test_only_a_taker(self):
        line = [grant(0, 1, 1, 1), grant(1, 2, 1, 0), grant(0, 2, 2, 0), leave(2)]
        self.assertEqual(last(*line), (2,))
        self.assertEqual(pairs(line, 1), [(0, 1)])

    def test_nothing_to_leave(self):
        self.assertEqual(ask(leave(1), grant(0, 1, 1, 1), leave(2), leave(12)), [(0,), (1,), (0,), (0,)])

    def test_who_left_may_be_granted_again(self):
        self.assertEqual(ask(grant(0, 1, 1, 1), leave(1), leave(1), grant(1, 2, 1, 1), grant(0, 1, 1, 1),
                             grant(1, 2, 1, 1)), [(1,), (1,), (0,), (-6,), (2,), (3,)])


class Edges(unittest.TestCase):
    line = [grant(0, 1, 1, 1), grant(1, 12, 4, 1), grant(0, 12, 4, 1), grant(12, 2, 4, 1)]

    def test_users_that_fit(self):
        self.assertEqual(last(*self.line, leave(1)), (1,))
        self.assertEqual(last(*self.line, leave(12)), (2,))

    def test_what_does_not_fit(self):
        before = state(self.line)
        for u in (0, 13, BIG):
            self.assertEqual(last(*self.line, leave(u)), UNFIT)
            self.assertEqual(state(self.line + [leave(u)]), before)


if __name__ == "__main__":
    unittest.main()
