import unittest

from tests.lines import BIG, NO_GRANT, NOT_ALLOWED, UNFIT
from tests.lines import ask, careful, grant, holdings, last, pairs, state


class NotRefused(unittest.TestCase):
    def test_the_taker_may_lose_it(self):
        line = [grant(0, 1, 1, 1), grant(1, 2, 1, 1), careful(1, 2, 1)]
        self.assertEqual(last(*line), (1,))
        self.assertEqual(holdings(line, 1), (2,) + (0,) * 11)

    def test_others_who_have_as_much_from_others(self):
        line = [grant(0, 1, 1, 1), grant(1, 2, 1, 1), grant(2, 3, 1, 1), grant(0, 3, 1, 1), careful(1, 2, 1)]
        self.assertEqual(last(*line), (2,))
        self.assertEqual(pairs(line, 1), [(0, 1), (0, 3)])

    def test_others_who_have_more_from_others(self):
        line = [grant(0, 1, 1, 1), grant(1, 2, 1, 1), grant(2, 3, 1, 0), grant(0, 3, 1, 1), careful(1, 2, 1)]
        self.assertEqual(last(*line), (2,))
        self.assertEqual(holdings(line, 1), (2, 0, 2) + (0,) * 9)

    def test_what_stays_by_an_earlier_grant(self):
        line = [grant(0, 1, 1, 1), grant(0, 2, 1, 1), grant(1, 2, 1, 1), grant(2, 3, 1, 0), careful(1, 2, 1)]
        self.assertEqual(last(*line), (1,))
        self.assertEqual(pairs(line, 1), [(0, 1), (0, 2), (2, 3)])

    def test_the_giver_who_loses_only_what_the_taker_gave_back(self):
        line = [grant(0, 1, 1, 1), grant(1, 2, 1, 1), grant(2, 1, 1, 1), careful(1, 2, 1)]
        self.assertEqual(last(*line), (2,))
        self.assertEqual(holdings(line, 1), (2,) + (0,) * 11)

    def test_other_rights_stay(self):
        line = [grant(0, 1, 1, 1), grant(0, 1, 2, 1), grant(1, 2, 2, 0), careful(0, 1, 1)]
        self.assertEqual(last(*line), (1,))
        self.assertEqual(pairs(line, 2), [(0, 1), (1, 2)])


class Refused(unittest.TestCase):
    line = [grant(0, 1, 1, 1), grant(1, 12, 1, 1), grant(12, 2, 1, 0), grant(0, 12, 4, 1), grant(12, 1, 4, 0)]

    def refused_and_as_it_was(self, line, call):
        self.assertEqual(last(*line, call), NOT_ALLOWED)
        self.assertEqual(state(line + [call]), state(line))

    def test_another_falls_from_one_to_nothing(self):
        self.refused_and_as_it_was([grant(0, 1, 1, 1), grant(1, 2, 1, 0)], careful(0, 1, 1))

    def test_another_falls_from_two_to_nothing(self):
        self.refused_and_as_it_was([grant(0, 1, 1, 1), grant(1, 12, 1, 1)], careful(0, 1, 1))

    def test_another_falls_from_two_to_one(self):
        line = [grant(0, 1, 1, 1), grant(1, 2, 1, 1), grant(0, 2, 1, 0)]
        self.refused_and_as_it_was(line, careful(0, 1, 1))

    def test_another_further_on_falls(self):
        line = [grant(0, 1, 1, 1), grant(1, 2, 1, 1), grant(0, 2, 1, 1), grant(2, 3, 1, 0)]
        self.refused_and_as_it_was(line[:2] + [line[3], line[2]], careful(0, 1, 1))
        self.assertEqual(last(*line, careful(0, 1, 1)), (2,))

    def test_the_lowest_user_falls(self):
        self.refused_and_as_it_was([grant(0, 12, 1, 1), grant(12, 1, 1, 1)], careful(0, 12, 1))

    def test_what_does_not_fit(self):
        for a, b, r in ((13, 1, 1), (BIG, 1, 1), (1, 0, 1), (1, 13, 1), (0, BIG, 1), (0, 1, 0), (0, 1, 5),
                        (0, 1, BIG), (0, 0, 1), (1, 1, 1), (12, 12, 1), (BIG, BIG, BIG)):
            self.assertEqual(last(*self.line, careful(a, b, r)), UNFIT)

    def test_edges_that_fit(self):
        for a, b, r in ((12, 2, 1), (12, 1, 4)):
            self.assertEqual(last(*self.line, careful(a, b, r)), (1,))
        for a, b, r in ((0, 1, 1), (1, 12, 1), (0, 12, 4)):
            self.assertEqual(last(*self.line, careful(a, b, r)), NOT_ALLOWED)

    def test_no_grant(self):
        for a, b, r in ((0, 1, 2), (1, 2, 1), (12, 1, 1), (0, 12, 1)):
            self.assertEqual(last(*self.line, careful(a, b, r)), NO_GRANT)

    def test_what_does_not_fit_is_told_ahead_of_no_grant(self):
        self.assertEqual(ask(careful(2, 2, 1), careful(13, 1, 1), careful(0, 1, 1)), [UNFIT, UNFIT, NO_GRANT])

    def test_all_is_as_it_was(self):
        before = state(self.line)
        for call in (careful(0, 1, 5), careful(1, 1, 1), careful(0, 2, 1), careful(0, 1, 1)):
            self.assertEqual(state(self.line + [call]), before)


if __name__ == "__main__":
    unittest.main()
