import unittest

from tests.lines import BIG, NO_GRANT, UNFIT
from tests.lines import ask, careful, chain, grant, last, leave, over, revoke, state


class Ordinary(unittest.TestCase):
    def test_by_the_house_itself(self):
        self.assertEqual(last(grant(0, 1, 1, 1), chain(1, 1)), (1, 1))
        self.assertEqual(last(grant(0, 1, 1, 0), chain(1, 1)), (1, 1))

    def test_the_house_is_first_the_user_last(self):
        line = [grant(0, 5, 1, 1), grant(0, 9, 1, 0), grant(5, 2, 1, 1), grant(2, 7, 1, 0)]
        self.assertEqual(ask(*line, chain(7, 1), chain(2, 1), chain(5, 1), chain(9, 1))[4:],
                         [(3, 1, 3, 4), (2, 1, 3), (1, 1), (1, 2)])

    def test_a_chain_of_all_users(self):
        line = [grant(0, 1, 1, 1)] + [grant(u, u + 1, 1, 1) for u in range(1, 12)]
        self.assertEqual(last(*line, chain(12, 1)), (12,) + tuple(range(1, 13)))

    def test_the_first_grant_to_the_user_not_the_shortest_way(self):
        line = [grant(0, 1, 1, 1), grant(1, 2, 1, 1), grant(0, 2, 1, 1)]
        self.assertEqual(last(*line, chain(2, 1)), (2, 1, 2))

    def test_the_first_grant_to_the_user_may_be_without_leave(self):
        line = [grant(0, 1, 1, 1), grant(1, 2, 1, 0), grant(0, 2, 1, 1)]
        self.assertEqual(last(*line, chain(2, 1)), (2, 1, 2))

    def test_the_first_grant_to_a_giver_is_one_with_leave(self):
        line = [grant(0, 1, 1, 1), grant(1, 2, 1, 0), grant(0, 2, 1, 1), grant(1, 2, 1, 1), grant(2, 3, 1, 0)]
        self.assertEqual(last(*line, chain(3, 1)), (2, 3, 5))

    def test_the_first_with_leave_to_a_giver_not_the_latest_nor_the_shortest_way(self):
        line = [grant(0, 1, 1, 1), grant(1, 2, 1, 1), grant(0, 2, 1, 1), grant(2, 3, 1, 1), grant(2, 3, 1, 1)]
        self.assertEqual(last(*line, chain(3, 1)), (3, 1, 2, 4))

    def test_two_who_granted_it_to_each_other(self):
        line = [grant(0, 1, 1, 1), grant(1, 2, 1, 1), grant(2, 1, 1, 1), grant(1, 2, 1, 1)]
        self.assertEqual(ask(*line, chain(1, 1), chain(2, 1))[4:], [(1, 1), (2, 1, 2)])

    def test_each_right_by_itself(self):
        line = [grant(0, 1, 2, 1), grant(0, 2, 1, 1), grant(0, 1, 1, 1), grant(1, 3, 1, 0), grant(1, 3, 2, 0)]
        self.assertEqual(ask(*line, chain(3, 1), chain(3, 2))[5:], [(2, 3, 4), (2, 1, 5)])


class Afterwards(unittest.TestCase):
    line = [grant(0, 1, 1, 1), grant(0, 2, 1, 1), grant(1, 3, 1, 1), grant(2, 3, 1, 1), grant(3, 4, 1, 0)]

    def test_behind_each_way_to_take(self):
        self.assertEqual(last(*self.line, chain(4, 1)), (3, 1, 3, 5))
        self.assertEqual(last(*self.line, revoke(1, 3, 1), chain(4, 1)), (3, 2, 4, 5))
        self.assertEqual(last(*self.line, careful(0, 1, 1), chain(4, 1)), (3, 2, 4, 5))
        self.assertEqual(last(*self.line, leave(1), chain(4, 1)), (3, 2, 4, 5))
        self.assertEqual(last(*self.line, over(0, 1, 1), chain(4, 1)), (2, 3, 5))

    def test_with_a_new_giver(self):
        line = [grant(0, 1, 1, 1), grant(1, 2, 1, 1), grant(2, 3, 1, 1), grant(3, 4, 1, 0), over(1, 2, 1)]
        self.assertEqual(ask(*line, chain(3, 1), chain(4, 1), chain(2, 1))[5:], [(2, 1, 3), (3, 1, 3, 4), NO_GRANT])

    def test_a_grant_behind_one_that_went(self):
        line = [grant(0, 1, 1, 1), revoke(0, 1, 1), grant(0, 1, 1, 1)]
        self.assertEqual(last(*line, chain(1, 1)), (1, 2))


class Refused(unittest.TestCase):
    line = [grant(0, 1, 1, 1), grant(1, 12, 1, 1), grant(0, 12, 4, 1), grant(12, 1, 4, 0)]

    def test_what_does_not_fit(self):
        for u, r in ((0, 1), (13, 1), (BIG, 1), (1, 0), (1, 5), (12, BIG), (0, 0), (13, 5), (BIG, BIG)):
            self.assertEqual(last(*self.line, chain(u, r)), UNFIT)

    def test_edges_that_fit(self):
        self.assertEqual(ask(*self.line, chain(1, 1), chain(12, 1), chain(1, 4), chain(12, 4))[4:],
                         [(1, 1), (2, 1, 2), (2, 3, 4), (1, 3)])

    def test_who_has_nothing_of_the_right(self):
        for u, r in ((2, 1), (11, 1), (1, 2), (12, 3), (2, 4)):
            self.assertEqual(last(*self.line, chain(u, r)), NO_GRANT)

    def test_who_has_nothing_any_more(self):
        self.assertEqual(last(*self.line, revoke(0, 1, 1), chain(12, 1)), NO_GRANT)

    def test_what_does_not_fit_is_told_ahead_of_nothing(self):
        self.assertEqual(ask(chain(0, 1), chain(13, 1), chain(1, 5), chain(1, 1)), [UNFIT, UNFIT, UNFIT, NO_GRANT])

    def test_asking_changes_nothing(self):
        asked = [chain(1, 1), chain(12, 4), chain(0, 1), chain(2, 1)]
        self.assertEqual(state(self.line + asked), state(self.line))


if __name__ == "__main__":
    unittest.main()
