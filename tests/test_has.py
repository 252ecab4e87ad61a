import unittest

from tests.lines import BIG, UNFIT
from tests.lines import ask, grant, has, holdings, last, revoke, state


class Ordinary(unittest.TestCase):
    def test_nothing_one_and_two(self):
        self.assertEqual(ask(grant(0, 1, 1, 1), grant(1, 2, 1, 0), has(1, 1), has(2, 1), has(3, 1))[2:],
                         [(2,), (1,), (0,)])

    def test_at_the_beginning_nobody_has_anything(self):
        for r in range(1, 5):
            self.assertEqual(holdings([], r), (0,) * 12)

    def test_of_several_the_most_in_either_order(self):
        for first, second in ((0, 1), (1, 0)):
            self.assertEqual(last(grant(0, 1, 1, first), grant(0, 1, 1, second), has(1, 1)), (2,))
        self.assertEqual(last(grant(0, 1, 1, 0), grant(0, 1, 1, 0), has(1, 1)), (1,))

    def test_each_right_by_itself(self):
        line = [grant(0, 1, 1, 1), grant(0, 1, 3, 0)]
        self.assertEqual(ask(*line, has(1, 1), has(1, 2), has(1, 3), has(1, 4))[2:], [(2,), (0,), (1,), (0,)])

    def test_two_falls_to_one_and_to_nothing(self):
        self.assertEqual(ask(grant(0, 1, 1, 1), grant(0, 2, 1, 0), grant(1, 2, 1, 1), has(2, 1),
                             revoke(1, 2, 1), has(2, 1), revoke(0, 2, 1), has(2, 1))[3:],
                         [(2,), (1,), (1,), (1,), (0,)])


class Edges(unittest.TestCase):
    line = [grant(0, 1, 1, 1), grant(0, 12, 1, 1), grant(0, 1, 4, 0), grant(0, 12, 4, 0)]

    def test_that_fit(self):
        self.assertEqual(ask(*self.line, has(1, 1), has(12, 1), has(1, 4), has(12, 4))[4:], [(2,), (2,), (1,), (1,)])

    def test_what_does_not_fit(self):
        for u, r in ((0, 1), (13, 1), (BIG, 1), (1, 0), (1, 5), (1, BIG), (0, 0), (13, 5), (BIG, BIG)):
            self.assertEqual(last(*self.line, has(u, r)), UNFIT)

    def test_asking_changes_nothing(self):
        self.assertEqual(state(self.line + [has(1, 1), has(0, 1), has(2, 4)]), state(self.line))


if __name__ == "__main__":
    unittest.main()
