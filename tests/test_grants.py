import unittest

from tests.lines import BIG, UNFIT
from tests.lines import ask, careful, grant, grants, joined, last, leave, over, revoke, state


class Ordinary(unittest.TestCase):
    def test_none(self):
        self.assertEqual(ask(*[grants(r) for r in range(1, 5)]), [(0,)] * 4)

    def test_number_giver_taker_and_leave(self):
        line = [grant(0, 7, 1, 1), grant(7, 5, 1, 0), grant(7, 3, 1, 1)]
        self.assertEqual(last(*line, grants(1)), (3, 1, 0, 7, 1, 2, 7, 5, 0, 3, 7, 3, 1))

    def test_each_right_by_itself(self):
        line = [grant(0, 1, 1, 1), grant(0, 1, 4, 1), grant(1, 2, 1, 0), grant(1, 2, 4, 0), grant(0, 12, 2, 0)]
        self.assertEqual(ask(*line, *[grants(r) for r in range(1, 5)])[5:],
                         [(2, 1, 0, 1, 1, 3, 1, 2, 0), (1, 5, 0, 12, 0), (0,), (2, 2, 0, 1, 1, 4, 1, 2, 0)])

    def test_several_between_the_same_two(self):
        line = [grant(0, 1, 1, 0), grant(0, 1, 1, 1), grant(0, 1, 1, 0)]
        self.assertEqual(last(*line, grants(1)), (3, 1, 0, 1, 0, 2, 0, 1, 1, 3, 0, 1, 0))

    def test_fourteen(self):
        line = [grant(0, 1, 1, 1)] * 15
        self.assertEqual(last(*line, grants(1)), tuple([14] + joined([n, 0, 1, 1] for n in range(1, 15))))

    def test_what_was_refused_is_not_there(self):
        line = [grant(0, 1, 1, 0), grant(1, 2, 1, 1), grant(0, 2, 1, 2), grant(0, 13, 1, 1), grant(0, 2, 1, 1)]
        self.assertEqual(last(*line, grants(1)), (2, 1, 0, 1, 0, 2, 0, 2, 1))


class Afterwards(unittest.TestCase):
    line = [grant(0, 1, 1, 1), grant(1, 2, 1, 1), grant(2, 3, 1, 1), grant(3, 4, 1, 0), grant(0, 3, 1, 0)]

    def test_behind_each_way_to_take(self):
        self.assertEqual(last(*self.line, revoke(1, 2, 1), grants(1)), (2, 1, 0, 1, 1, 5, 0, 3, 0))
        self.assertEqual(last(*self.line, careful(3, 4, 1), grants(1)),
                         (4, 1, 0, 1, 1, 2, 1, 2, 1, 3, 2, 3, 1, 5, 0, 3, 0))
        self.assertEqual(last(*self.line, leave(2), grants(1)), (2, 1, 0, 1, 1, 5, 0, 3, 0))

    def test_with_a_new_giver_a_grant_keeps_its_number_place_and_leave(self):
        self.assertEqual(last(*self.line, over(1, 2, 1), grants(1)),
                         (4, 1, 0, 1, 1, 3, 1, 3, 1, 4, 3, 4, 0, 5, 0, 3, 0))
        line = [grant(0, 1, 1, 1), grant(1, 2, 1, 0), over(0, 1, 1), grants(1)]
        self.assertEqual(last(*line), (1, 2, 0, 2, 0))

    def test_a_number_is_not_given_again(self):
        line = [grant(0, 1, 1, 1), grant(0, 2, 1, 1), revoke(0, 2, 1), grant(0, 2, 1, 1), leave(1), grant(0, 1, 1, 0)]
        self.assertEqual(last(*line, grants(1)), (2, 3, 0, 2, 1, 4, 0, 1, 0))


class Refused(unittest.TestCase):
    line = [grant(0, 1, 1, 1), grant(0, 12, 4, 0)]

    def test_what_does_not_fit(self):
        for r in (0, 5, 12, BIG):
            self.assertEqual(ask(grants(r), *self.line, grants(r))[::3], [UNFIT, UNFIT])

    def test_edges_that_fit(self):
        self.assertEqual(ask(*self.line, grants(1), grants(4))[2:], [(1, 1, 0, 1, 1), (1, 2, 0, 12, 0)])

    def test_asking_changes_nothing(self):
        self.assertEqual(state(self.line + [grants(1), grants(4), grants(2), grants(0)]), state(self.line))


if __name__ == "__main__":
    unittest.main()
