import unittest

from tests.lines import BIG, NO_GRANT, UNFIT
from tests.lines import ask, careful, grant, holdings, last, leave, lose, over, revoke, state


class Ordinary(unittest.TestCase):
    def test_the_taker_is_one_of_them(self):
        self.assertEqual(last(grant(0, 1, 1, 1), lose(0, 1, 1)), (1, 1))

    def test_rising_not_as_they_were_granted(self):
        line = [grant(0, 9, 1, 1), grant(9, 12, 1, 1), grant(12, 2, 1, 1), grant(2, 1, 1, 0), grant(0, 5, 1, 1)]
        self.assertEqual(ask(*line, lose(0, 9, 1), lose(9, 12, 1), lose(2, 1, 1))[5:],
                         [(4, 1, 2, 9, 12), (3, 1, 2, 12), (1, 1)])

    def test_nobody(self):
        line = [grant(0, 1, 1, 1), grant(0, 2, 1, 1), grant(1, 2, 1, 1), grant(2, 3, 1, 1)]
        self.assertEqual(last(*line, lose(1, 2, 1)), (0,))

    def test_from_two_to_one_is_less(self):
        line = [grant(0, 1, 1, 1), grant(0, 2, 1, 0), grant(1, 2, 1, 1)]
        self.assertEqual(ask(*line, lose(1, 2, 1), lose(0, 1, 1), lose(0, 2, 1))[3:], [(1, 2), (2, 1, 2), (0,)])

    def test_who_has_as_much_from_others_is_none_of_them(self):
        line = [grant(0, 1, 1, 1), grant(1, 2, 1, 1), grant(1, 3, 1, 0), grant(0, 2, 1, 1), grant(0, 3, 1, 0)]
        self.assertEqual(last(*line, lose(0, 1, 1)), (1, 1))

    def test_what_could_be_given_only_by_a_later_grant_falls(self):
        line = [grant(0, 1, 1, 1), grant(1, 2, 1, 0), grant(0, 1, 1, 1), grant(0, 3, 1, 1), grant(3, 1, 1, 1)]
        self.assertEqual(last(*line, lose(0, 1, 1)), (1, 2))

    def test_all_between_the_two_are_taken_back(self):
        line = [grant(0, 1, 1, 1), grant(0, 1, 1, 1), grant(0, 1, 1, 0), grant(1, 2, 1, 0)]
        self.assertEqual(last(*line, lose(0, 1, 1)), (2, 1, 2))

    def test_two_who_granted_it_to_each_other(self):
        line = [grant(0, 1, 1, 1), grant(1, 2, 1, 1), grant(2, 1, 1, 1)]
        self.assertEqual(ask(*line, lose(0, 1, 1), lose(1, 2, 1), lose(2, 1, 1))[3:], [(2, 1, 2), (1, 2), (0,)])

    def test_each_right_by_itself(self):
        line = [grant(0, 1, 1, 1), grant(0, 1, 2, 1), grant(1, 2, 2, 1), grant(1, 3, 1, 1)]
        self.assertEqual(ask(*line, lose(0, 1, 1), lose(0, 1, 2))[4:], [(2, 1, 3), (2, 1, 2)])

    def test_all_twelve(self):
        line = [grant(0, 12, 1, 1)] + [grant(u, u - 1, 1, 1) for u in range(12, 1, -1)]
        self.assertEqual(last(*line, lose(0, 12, 1)), (12,) + tuple(range(1, 13)))

    def test_they_are_those_who_have_less_behind_revoke(self):
        line = [grant(0, 1, 1, 1), grant(1, 2, 1, 1), grant(2, 3, 1, 0), grant(0, 3, 1, 1), grant(3, 4, 1, 1),
                grant(2, 4, 1, 0), grant(2, 5, 1, 1), grant(5, 6, 1, 0), grant(0, 5, 1, 0)]
        before = holdings(line, 1)
        for a, b in ((0, 1), (1, 2), (0, 3), (2, 5), (3, 4)):
            after = holdings(line + [revoke(a, b, 1)], 1)
            less = tuple(u for u in range(1, 13) if after[u - 1] < before[u - 1])
            self.assertEqual(last(*line, lose(a, b, 1)), (len(less),) + less)


class Afterwards(unittest.TestCase):
    line = [grant(0, 1, 1, 1), grant(0, 2, 1, 1), grant(1, 3, 1, 1), grant(2, 3, 1, 1), grant(3, 4, 1, 0)]

    def test_behind_each_way_to_take(self):
        self.assertEqual(last(*self.line, lose(0, 2, 1)), (1, 2))
        self.assertEqual(last(*self.line, revoke(1, 3, 1), lose(0, 2, 1)), (3, 2, 3, 4))
        self.assertEqual(last(*self.line, careful(0, 1, 1), lose(2, 3, 1)), (2, 3, 4))
        self.assertEqual(last(*self.line, leave(1), lose(0, 1, 1)), NO_GRANT)
        self.assertEqual(last(*self.line, over(0, 1, 1), lose(0, 3, 1)), (0,))


class Refused(unittest.TestCase):
    line = [grant(0, 1, 1, 1), grant(1, 12, 1, 1), grant(0, 12, 4, 1), grant(12, 1, 4, 1)]

    def test_what_does_not_fit(self):
        for a, b, r in ((13, 1, 1), (BIG, 1, 1), (1, 0, 1), (1, 13, 1), (0, BIG, 1), (0, 1, 0), (0, 1, 5),
                        (0, 1, BIG), (0, 0, 1), (1, 1, 1), (12, 12, 1), (BIG, BIG, BIG)):
            self.assertEqual(last(*self.line, lose(a, b, r)), UNFIT)

    def test_edges_that_fit(self):
        self.assertEqual(ask(*self.line, lose(0, 1, 1), lose(1, 12, 1), lose(0, 12, 4), lose(12, 1, 4))[4:],
                         [(2, 1, 12), (1, 12), (2, 1, 12), (1, 1)])

    def test_no_grant(self):
        for a, b, r in ((0, 1, 2), (1, 2, 1), (0, 2, 1), (12, 1, 1), (0, 12, 1), (1, 12, 4)):
            self.assertEqual(last(*self.line, lose(a, b, r)), NO_GRANT)

    def test_what_does_not_fit_is_told_ahead_of_no_grant(self):
        self.assertEqual(ask(lose(1, 1, 1), lose(13, 1, 1), lose(0, 1, 5), lose(0, 1, 1)),
                         [UNFIT, UNFIT, UNFIT, NO_GRANT])

    def test_asking_changes_nothing(self):
        asked = [lose(0, 1, 1), lose(12, 1, 4), lose(1, 1, 1), lose(0, 2, 1)]
        self.assertEqual(state(self.line + asked), state(self.line))


if __name__ == "__main__":
    unittest.main()
