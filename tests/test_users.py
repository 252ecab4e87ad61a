import unittest

from tests.lines import BIG, UNFIT
from tests.lines import ask, careful, grant, last, leave, over, revoke, state, users


class Ordinary(unittest.TestCase):
    def test_nobody(self):
        self.assertEqual(ask(*[users(r) for r in range(1, 5)]), [(0,)] * 4)

    def test_rising_not_as_they_were_granted(self):
        line = [grant(0, 9, 1, 1), grant(9, 2, 1, 1), grant(2, 12, 1, 1), grant(0, 1, 1, 1), grant(9, 10, 1, 1)]
        self.assertEqual(last(*line, users(1)), (5, 1, 2, 9, 10, 12))

    def test_with_leave_and_without(self):
        self.assertEqual(last(grant(0, 3, 1, 0), grant(0, 5, 1, 1), users(1)), (2, 3, 5))

    def test_each_once(self):
        line = [grant(0, 1, 1, 1), grant(0, 1, 1, 0), grant(0, 2, 1, 1), grant(1, 2, 1, 1), grant(2, 1, 1, 1)]
        self.assertEqual(last(*line, users(1)), (2, 1, 2))

    def test_all_twelve(self):
        line = [grant(0, u, 1, 0) for u in range(12, 0, -1)]
        self.assertEqual(last(*line, users(1)), (12,) + tuple(range(1, 13)))

    def test_each_right_by_itself(self):
        line = [grant(0, 1, 1, 1), grant(0, 2, 2, 1), grant(0, 12, 4, 0), grant(2, 1, 2, 0)]
        self.assertEqual(ask(*line, *[users(r) for r in range(1, 5)])[4:], [(1, 1), (2, 1, 2), (0,), (1, 12)])


class Afterwards(unittest.TestCase):
    line = [grant(0, 1, 1, 1), grant(1, 2, 1, 1), grant(2, 3, 1, 0), grant(0, 4, 1, 0), grant(2, 4, 1, 1)]

    def test_behind_each_way_to_take(self):
        self.assertEqual(last(*self.line, revoke(1, 2, 1), users(1)), (2, 1, 4))
        self.assertEqual(last(*self.line, over(1, 2, 1), users(1)), (3, 1, 3, 4))
        self.assertEqual(last(*self.line, careful(2, 3, 1), users(1)), (3, 1, 2, 4))
        self.assertEqual(last(*self.line, careful(1, 2, 1), users(1)), (4, 1, 2, 3, 4))
        self.assertEqual(last(*self.line, leave(1), users(1)), (1, 4))


class Refused(unittest.TestCase):
    line = [grant(0, 1, 1, 1), grant(0, 12, 4, 1)]

    def test_what_does_not_fit(self):
        for r in (0, 5, 12, BIG):
            self.assertEqual(ask(users(r), *self.line, users(r))[::3], [UNFIT, UNFIT])

    def test_edges_that_fit(self):
        self.assertEqual(ask(*self.line, users(1), users(4))[2:], [(1, 1), (1, 12)])

    def test_asking_changes_nothing(self):
        self.assertEqual(state(self.line + [users(1), users(4), users(2), users(0)]), state(self.line))


if __name__ == "__main__":
    unittest.main()
