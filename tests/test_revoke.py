import unittest

from tests.lines import BIG, NO_GRANT, UNFIT
from tests.lines import ask, grant, holdings, last, pairs, revoke, state


class Ordinary(unittest.TestCase):
    def test_one_grant(self):
        line = [grant(0, 1, 1, 1), grant(0, 2, 1, 1), revoke(0, 1, 1)]
        self.assertEqual(last(*line), (1,))
        self.assertEqual(pairs(line, 1), [(0, 2)])

    def test_what_hung_on_it_falls(self):
        line = [grant(0, 1, 1, 1), grant(1, 2, 1, 1), grant(2, 3, 1, 1), grant(3, 4, 1, 0), revoke(1, 2, 1)]
        self.assertEqual(last(*line), (3,))
        self.assertEqual(pairs(line, 1), [(0, 1)])

    def test_a_row_of_all_users_falls(self):
        line = [grant(0, 1, 1, 1)] + [grant(u, u + 1, 1, 1) for u in range(1, 12)]
        self.assertEqual(last(*line, revoke(0, 1, 1)), (12,))

    def test_all_between_the_two_go(self):
        line = [grant(0, 1, 1, 1), grant(1, 2, 1, 0), grant(1, 2, 1, 1), grant(1, 2, 1, 1), revoke(1, 2, 1)]
        self.assertEqual(last(*line), (3,))
        self.assertEqual(last(*line, revoke(1, 2, 1)), NO_GRANT)

    def test_not_the_other_way_round(self):
        line = [grant(0, 1, 1, 1), grant(0, 2, 1, 1), grant(1, 2, 1, 0), grant(2, 1, 1, 0), revoke(1, 2, 1)]
        self.assertEqual(last(*line), (1,))
        self.assertEqual(pairs(line, 1), [(0, 1), (0, 2), (2, 1)])

    def test_other_rights_stay(self):
        line = [grant(0, 1, 1, 1), grant(1, 2, 1, 0), grant(0, 1, 2, 1), grant(1, 2, 2, 0), revoke(0, 1, 1)]
        self.assertEqual(last(*line), (2,))
        self.assertEqual(pairs(line, 1), [])
        self.assertEqual(pairs(line, 2), [(0, 1), (1, 2)])

    def test_other_takers_and_givers_stay(self):
        line = [grant(0, 1, 1, 1), grant(0, 2, 1, 1), grant(1, 3, 1, 0), grant(2, 3, 1, 0), grant(1, 4, 1, 0)]
        self.assertEqual(last(*line, revoke(1, 3, 1)), (1,))
        self.assertEqual(pairs(line + [revoke(1, 3, 1)], 1), [(0, 1), (0, 2), (1, 4), (2, 3)])


class HadFromSeveral(unittest.TestCase):
    two_then_three = [grant(0, 1, 1, 1), grant(0, 2, 1, 1)]

    def test_what_could_be_given_by_an_earlier_grant_stays(self):
        line = self.two_then_three + [grant(1, 3, 1, 1), grant(2, 3, 1, 1), grant(3, 4, 1, 0)]
        for giver in (1, 2):
            taken = line + [revoke(giver, 3, 1)]
            self.assertEqual(last(*taken), (1,))
            self.assertIn((3, 4), pairs(taken, 1))

    def test_what_could_be_given_only_by_a_later_grant_falls(self):
        line = self.two_then_three + [grant(1, 3, 1, 1), grant(3, 4, 1, 0), grant(2, 3, 1, 1), grant(3, 5, 1, 0)]
        taken = line + [revoke(1, 3, 1)]
        self.assertEqual(last(*taken), (2,))
        self.assertEqual(pairs(taken, 1), [(0, 1), (0, 2), (2, 3), (3, 5)])

    def test_an_earlier_grant_without_leave_does_not_hold_it(self):
        line = self.two_then_three + [grant(2, 3, 1, 0), grant(1, 3, 1, 1), grant(3, 4, 1, 0), revoke(1, 3, 1)]
        self.assertEqual(last(*line), (2,))
        self.assertEqual(pairs(line, 1), [(0, 1), (0, 2), (2, 3)])

    def test_an_earlier_grant_of_another_right_does_not_hold_it(self):
        line = [grant(0, 3, 2, 1), grant(0, 3, 1, 1), grant(3, 4, 1, 0), revoke(0, 3, 1)]
        self.assertEqual(last(*line), (2,))

    def test_an_earlier_grant_that_falls_too_does_not_hold_it(self):
        line = [grant(0, 1, 1, 1), grant(1, 2, 1, 1), grant(1, 3, 1, 1), grant(2, 3, 1, 1), grant(3, 4, 1, 1),
                revoke(0, 1, 1)]
        self.assertEqual(last(*line), (5,))


class ToEachOther(unittest.TestCase):
    def test_two_do_not_keep_it_alive(self):
        line = [grant(0, 1, 1, 1), grant(1, 2, 1, 1), grant(2, 1, 1, 1), grant(1, 2, 1, 1), grant(2, 1, 1, 1)]
        self.assertEqual(last(*line, revoke(0, 1, 1)), (5,))
        self.assertEqual(holdings(line + [revoke(0, 1, 1)], 1), (0,) * 12)

    def test_three_in_a_ring_do_not_keep_it_alive(self):
        line = [grant(0, 1, 1, 1), grant(1, 2, 1, 1), grant(2, 3, 1, 1), grant(3, 1, 1, 1), grant(1, 2, 1, 1),
                revoke(0, 1, 1)]
        self.assertEqual(last(*line), (5,))

    def test_a_grant_back_keeps_what_it_was_made_ahead_of(self):
        line = [grant(0, 1, 1, 1), grant(0, 2, 1, 1), grant(2, 1, 1, 1), grant(1, 3, 1, 1), revoke(0, 1, 1)]
        self.assertEqual(last(*line), (1,))
        self.assertEqual(pairs(line, 1), [(0, 2), (1, 3), (2, 1)])


class Refused(unittest.TestCase):
    line = [grant(0, 1, 1, 1), grant(1, 12, 1, 1), grant(0, 12, 4, 1), grant(12, 1, 4, 1)]

    def test_what_does_not_fit(self):
        for a, b, r in ((13, 1, 1), (BIG, 1, 1), (1, 0, 1), (1, 13, 1), (0, BIG, 1), (0, 1, 0), (0, 1, 5),
                        (0, 1, BIG), (0, 0, 1), (1, 1, 1), (12, 12, 1), (BIG, BIG, BIG)):
            self.assertEqual(last(*self.line, revoke(a, b, r)), UNFIT)

    def test_edges_that_fit(self):
        for a, b, r in ((0, 1, 1), (1, 12, 1), (0, 12, 4), (12, 1, 4)):
            self.assertGreater(last(*self.line, revoke(a, b, r)), (0,))

    def test_no_grant(self):
        for a, b, r in ((0, 1, 2), (1, 2, 1), (0, 2, 1), (12, 1, 1), (0, 12, 1), (1, 12, 4)):
            self.assertEqual(last(*self.line, revoke(a, b, r)), NO_GRANT)

    def test_what_does_not_fit_is_told_ahead_of_no_grant(self):
        self.assertEqual(ask(revoke(1, 1, 1), revoke(0, 1, 5), revoke(0, 1, 1)), [UNFIT, UNFIT, NO_GRANT])

    def test_all_is_as_it_was(self):
        before = state(self.line)
        for call in (revoke(0, 1, 5), revoke(1, 1, 1), revoke(0, 2, 1)):
            self.assertEqual(state(self.line + [call]), before)


if __name__ == "__main__":
    unittest.main()
