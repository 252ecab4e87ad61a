import unittest

from tests.lines import BIG, NO_GRANT, UNFIT
from tests.lines import ask, grant, holdings, last, leave, over, pairs, revoke, state


class Ordinary(unittest.TestCase):
    def test_some_stay_some_have_a_new_giver_some_go(self):
        line = [grant(0, 1, 1, 1), grant(1, 2, 1, 1), grant(2, 3, 1, 1), grant(2, 1, 1, 1),
                grant(0, 2, 1, 1), grant(2, 4, 1, 0), grant(3, 5, 1, 0), over(1, 2, 1)]
        self.assertEqual(last(*line), (2, 1))
        self.assertEqual(pairs(line, 1), [(0, 1), (0, 2), (1, 3), (2, 4), (3, 5)])
        self.assertEqual(holdings(line, 1), (2, 2, 2, 1, 1) + (0,) * 7)

    def test_the_house_takes_over(self):
        line = [grant(0, 1, 1, 1), grant(1, 2, 1, 0), grant(1, 3, 1, 1), grant(3, 4, 1, 0), over(0, 1, 1)]
        self.assertEqual(last(*line), (1, 2))
        self.assertEqual(pairs(line, 1), [(0, 2), (0, 3), (3, 4)])
        self.assertEqual(holdings(line, 1), (0, 1, 2, 1) + (0,) * 8)

    def test_all_between_the_two_go(self):
        line = [grant(0, 1, 1, 1), grant(1, 2, 1, 1), grant(1, 2, 1, 0), grant(2, 3, 1, 0), grant(1, 2, 1, 1),
                over(1, 2, 1)]
        self.assertEqual(last(*line), (3, 1))
        self.assertEqual(pairs(line, 1), [(0, 1), (1, 3)])

    def test_nothing_to_take_over(self):
        self.assertEqual(last(grant(0, 1, 1, 1), grant(1, 2, 1, 0), over(1, 2, 1)), (1, 0))

    def test_what_stood_without_it_stays_with_its_giver(self):
        line = [grant(0, 2, 1, 1), grant(0, 1, 1, 1), grant(1, 2, 1, 1), grant(2, 3, 1, 0), over(1, 2, 1)]
        self.assertEqual(last(*line), (1, 0))
        self.assertEqual(pairs(line, 1), [(0, 1), (0, 2), (2, 3)])

    def test_a_later_grant_to_the_taker_holds_only_what_is_behind_it(self):
        line = [grant(0, 1, 1, 1), grant(1, 2, 1, 1), grant(2, 3, 1, 0), grant(0, 2, 1, 1), grant(2, 4, 1, 0),
                over(1, 2, 1)]
        self.assertEqual(last(*line), (1, 1))
        self.assertEqual(pairs(line, 1), [(0, 1), (0, 2), (1, 3), (2, 4)])

    def test_what_the_taker_gave_back_goes(self):
        line = [grant(0, 1, 1, 1), grant(1, 2, 1, 1), grant(2, 1, 1, 1), grant(2, 1, 1, 0), over(1, 2, 1)]
        self.assertEqual(last(*line), (3, 0))
        self.assertEqual(pairs(line, 1), [(0, 1)])

    def test_what_the_taker_gave_back_stays_if_it_may(self):
        line = [grant(0, 1, 1, 1), grant(1, 2, 1, 1), grant(0, 2, 1, 1), grant(2, 1, 1, 1), over(1, 2, 1)]
        self.assertEqual(last(*line), (1, 0))
        self.assertEqual(pairs(line, 1), [(0, 1), (0, 2), (2, 1)])

    def test_a_grant_with_its_new_giver_counts_for_those_behind(self):
        # 2 gave to 3 and 3 back to 2: once 1 has 3's grant, 3's own to 2 stays, and with it what 2 gave behind it.
        line = [grant(0, 1, 1, 1), grant(1, 2, 1, 1), grant(2, 3, 1, 1), grant(3, 2, 1, 1), grant(2, 4, 1, 0),
                over(1, 2, 1)]
        self.assertEqual(last(*line), (1, 1))
        self.assertEqual(pairs(line, 1), [(0, 1), (1, 3), (2, 4), (3, 2)])
        self.assertEqual(holdings(line, 1), (2, 2, 2, 1) + (0,) * 8)

    def test_other_rights_of_the_taker_stay_as_they_are(self):
        line = [grant(0, 1, 1, 1), grant(1, 2, 1, 1), grant(2, 3, 1, 0), grant(0, 1, 2, 1), grant(1, 2, 2, 1),
                grant(2, 3, 2, 0), over(1, 2, 1)]
        self.assertEqual(last(*line), (1, 1))
        self.assertEqual(pairs(line, 1), [(0, 1), (1, 3)])
        self.assertEqual(pairs(line, 2), [(0, 1), (1, 2), (2, 3)])

    def test_afterwards_it_hangs_on_the_new_giver(self):
        line = [grant(0, 1, 1, 1), grant(1, 2, 1, 1), grant(2, 3, 1, 1), grant(3, 4, 1, 0), over(1, 2, 1)]
        self.assertEqual(last(*line, revoke(1, 3, 1)), (2,))
        self.assertEqual(last(*line, leave(2)), (0,))
        self.assertEqual(last(*line, leave(1)), (3,))
        self.assertEqual(last(*line, over(0, 1, 1)), (1, 1))

    def test_a_grant_keeps_its_place_in_the_order(self):
        # 1's new grant to 3 is still ahead of 3's to 4, and behind it is 0's to 3.
        line = [grant(0, 1, 1, 1), grant(1, 2, 1, 1), grant(2, 3, 1, 1), grant(3, 4, 1, 0), grant(0, 3, 1, 1),
                over(1, 2, 1)]
        self.assertEqual(last(*line, revoke(0, 3, 1)), (1,))
        self.assertEqual(last(*line, revoke(1, 3, 1)), (2,))


class Refused(unittest.TestCase):
    line = [grant(0, 1, 1, 1), grant(1, 12, 1, 1), grant(12, 2, 1, 1), grant(0, 12, 4, 1)]

    def test_what_does_not_fit(self):
        for a, b, r in ((13, 1, 1), (BIG, 1, 1), (1, 0, 1), (1, 13, 1), (0, BIG, 1), (0, 1, 0), (0, 1, 5),
                        (0, 1, BIG), (0, 0, 1), (1, 1, 1), (12, 12, 1), (BIG, BIG, BIG)):
            self.assertEqual(last(*self.line, over(a, b, r)), UNFIT)

    def test_edges_that_fit(self):
        for a, b, r in ((0, 1, 1), (1, 12, 1), (12, 2, 1), (0, 12, 4)):
            self.assertEqual(len(last(*self.line, over(a, b, r))), 2)

    def test_no_grant(self):
        for a, b, r in ((0, 1, 2), (1, 2, 1), (12, 1, 1), (0, 12, 1)):
            self.assertEqual(last(*self.line, over(a, b, r)), NO_GRANT)

    def test_what_does_not_fit_is_told_ahead_of_no_grant(self):
        self.assertEqual(ask(over(2, 2, 1), over(13, 1, 1), over(0, 1, 1)), [UNFIT, UNFIT, NO_GRANT])

    def test_all_is_as_it_was(self):
        before = state(self.line)
        for call in (over(0, 1, 5), over(1, 1, 1), over(0, 2, 1)):
            self.assertEqual(state(self.line + [call]), before)


if __name__ == "__main__":
    unittest.main()
