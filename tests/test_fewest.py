import unittest

from tests.lines import BIG, NO_GRANT, UNFIT
from tests.lines import ask, careful, fewest, grant, has, last, leave, over, revoke, state


class Ordinary(unittest.TestCase):
    def test_one_grant(self):
        self.assertEqual(last(grant(0, 1, 1, 1), fewest(1, 1)), (1, 1))
        self.assertEqual(last(grant(0, 1, 1, 0), fewest(1, 1)), (1, 1))

    def test_of_one_chain_its_lowest_number(self):
        line = [grant(0, 9, 1, 1), grant(0, 1, 1, 1), grant(1, 2, 1, 1), grant(2, 3, 1, 0)]
        self.assertEqual(ask(*line, fewest(1, 1), fewest(2, 1), fewest(3, 1))[4:], [(1, 2), (1, 2), (1, 2)])

    def test_two_chains_with_nothing_in_common(self):
        line = [grant(0, 1, 1, 1), grant(0, 2, 1, 1), grant(1, 3, 1, 1), grant(2, 3, 1, 1), grant(3, 4, 1, 0)]
        self.assertEqual(ask(*line, fewest(3, 1), fewest(4, 1))[5:], [(2, 1, 2), (1, 5)])

    def test_several_between_the_same_two(self):
        line = [grant(0, 1, 1, 1), grant(1, 2, 1, 1), grant(1, 2, 1, 0), grant(1, 2, 1, 1)]
        self.assertEqual(last(*line, fewest(2, 1)), (1, 1))
        line = [grant(0, 1, 1, 1), grant(0, 1, 1, 1), grant(0, 1, 1, 1), grant(1, 2, 1, 0)]
        self.assertEqual(ask(*line, fewest(1, 1), fewest(2, 1))[4:], [(3, 1, 2, 3), (1, 4)])

    def test_a_narrow_place_in_the_middle(self):
        line = [grant(0, 1, 1, 1), grant(0, 2, 1, 1), grant(1, 3, 1, 1), grant(2, 3, 1, 1), grant(3, 4, 1, 1),
                grant(4, 5, 1, 1), grant(4, 6, 1, 1), grant(5, 7, 1, 0), grant(6, 7, 1, 1)]
        self.assertEqual(ask(*line, fewest(7, 1), fewest(3, 1))[9:], [(1, 5), (2, 1, 2)])

    def test_a_grant_without_leave_leads_only_to_its_taker(self):
        line = [grant(0, 1, 1, 0), grant(0, 1, 1, 1), grant(1, 2, 1, 0)]
        self.assertEqual(ask(*line, fewest(1, 1), fewest(2, 1))[3:], [(2, 1, 2), (1, 2)])

    def test_a_later_grant_to_a_giver_does_not_hold_what_is_ahead_of_it(self):
        line = [grant(0, 1, 1, 1), grant(1, 2, 1, 1), grant(0, 1, 1, 1)]
        self.assertEqual(ask(*line, fewest(2, 1), fewest(1, 1))[3:], [(1, 1), (2, 1, 3)])

    def test_two_who_granted_it_to_each_other(self):
        line = [grant(0, 1, 1, 1), grant(1, 2, 1, 1), grant(2, 1, 1, 1), grant(1, 2, 1, 1), grant(2, 1, 1, 1)]
        self.assertEqual(ask(*line, fewest(1, 1), fewest(2, 1))[5:], [(1, 1), (1, 1)])

    def test_each_right_by_itself(self):
        line = [grant(0, 1, 2, 1), grant(0, 1, 1, 1), grant(0, 2, 2, 1), grant(1, 3, 1, 1), grant(1, 3, 2, 1),
                grant(2, 3, 2, 1)]
        self.assertEqual(ask(*line, fewest(3, 1), fewest(3, 2))[6:], [(1, 2), (2, 1, 3)])

    def test_chains_with_something_in_common(self):
        # The chains to 4: 1 and 3; 1, 4 and 5; 1, 4 and 6; 2 and 5; 2 and 6.
        line = [grant(0, 1, 1, 1), grant(0, 2, 1, 1), grant(1, 4, 1, 1), grant(1, 2, 1, 1), grant(2, 4, 1, 1),
                grant(2, 4, 1, 1)]
        self.assertEqual(last(*line, fewest(4, 1)), (2, 1, 2))


class FirstRow(unittest.TestCase):
    def test_the_lower_number_at_the_first_place(self):
        # 3 and 5, or 4 and 5, would do too.
        line = [grant(0, 1, 1, 1), grant(0, 9, 1, 1), grant(1, 2, 1, 1), grant(2, 3, 1, 1), grant(0, 3, 1, 1)]
        self.assertEqual(last(*line, fewest(3, 1)), (2, 1, 5))

    def test_the_lower_number_at_the_second_place(self):
        line = [grant(0, 3, 1, 1), grant(0, 1, 1, 1), grant(1, 2, 1, 1), grant(2, 3, 1, 1)]
        self.assertEqual(last(*line, fewest(3, 1)), (2, 1, 2))

    def test_the_first_of_four_rows(self):
        # The chains are 1 and 6, and 2 and 3.
        line = [grant(0, 1, 1, 1), grant(0, 2, 1, 1), grant(2, 3, 1, 1), grant(0, 8, 1, 1), grant(0, 9, 1, 1),
                grant(1, 3, 1, 1)]
        self.assertEqual(last(*line, fewest(3, 1)), (2, 1, 2))

    def test_numbers_not_places(self):
        # Grants of another right have the numbers between; and as numbers, not as texts, 9 is ahead of 12.
        line = [grant(0, 1, 2, 1)] * 8 + [grant(0, 1, 1, 1)] + [grant(0, 1, 2, 1)] * 2 + [
            grant(0, 2, 1, 1), grant(1, 3, 1, 0), grant(2, 3, 1, 0)]
        self.assertEqual(last(*line, fewest(3, 1)), (2, 9, 12))

    def test_fewer_come_ahead_of_a_lower_number(self):
        line = [grant(0, 1, 1, 1), grant(0, 2, 1, 1), grant(1, 3, 1, 1), grant(2, 3, 1, 1), grant(3, 4, 1, 1)]
        self.assertEqual(last(*line, fewest(4, 1)), (1, 5))


class Fourteen(unittest.TestCase):
    def test_all_by_the_house(self):
        line = [grant(0, 1, 1, n % 2) for n in range(14)]
        self.assertEqual(last(*line, fewest(1, 1)), (14,) + tuple(range(1, 15)))

    def test_seven_chains_of_two(self):
        line = [grant(0, u, 1, 1) for u in range(1, 8)] + [grant(u, 8, 1, 1) for u in range(1, 8)]
        self.assertEqual(last(*line, fewest(8, 1)), (7, 1, 2, 3, 4, 5, 6, 7))
        by_turns = [call for u in range(1, 8) for call in (grant(0, u, 1, 1), grant(u, 8, 1, 1))]
        self.assertEqual(last(*by_turns, fewest(8, 1)), (7, 1, 3, 5, 7, 9, 11, 13))

    def test_a_chain_of_fourteen_in_one_ring(self):
        line = [grant(0, 1, 1, 1)] + [grant(1, 2, 1, 1), grant(2, 1, 1, 1)] * 6 + [grant(2, 3, 1, 1)]
        self.assertEqual(ask(*line, fewest(3, 1), fewest(2, 1), fewest(1, 1))[14:], [(1, 1)] * 3)

    def test_five_chains_through_the_same_three(self):
        line = [grant(0, 1, 1, 1)] * 5 + [grant(1, 2, 1, 1)] * 4 + [grant(2, 3, 1, 1)] * 5
        self.assertEqual(ask(*line, fewest(1, 1), fewest(2, 1), fewest(3, 1))[14:],
                         [(5, 1, 2, 3, 4, 5), (4, 6, 7, 8, 9), (4, 6, 7, 8, 9)])

    def test_of_two_rights_at_once(self):
        line = [grant(0, 1, r, 1) for n in range(14) for r in (1, 4)]
        self.assertEqual(ask(*line, fewest(1, 1), fewest(1, 4))[28:],
                         [(14,) + tuple(range(1, 28, 2)), (14,) + tuple(range(2, 29, 2))])

    def test_forty_six_times_in_one_line(self):
        # A house with many chains that have something in common, and one with the longest row there is.
        line = [grant(0, 5, 1, 1), grant(0, 5, 1, 1), grant(5, 4, 1, 1), grant(5, 4, 1, 1), grant(0, 4, 1, 1),
                grant(4, 3, 1, 1), grant(4, 3, 1, 1), grant(3, 6, 1, 1), grant(3, 6, 1, 1), grant(4, 6, 1, 1),
                grant(0, 6, 1, 1), grant(0, 6, 1, 1), grant(0, 6, 1, 1), grant(0, 6, 1, 1)]
        self.assertEqual(ask(*line, *[fewest(6, 1)] * 46)[14:], [(7, 1, 2, 5, 11, 12, 13, 14)] * 46)
        line = [grant(0, 1, 1, 1)] * 14
        self.assertEqual(ask(*line, *[fewest(1, 1)] * 46)[14:], [(14,) + tuple(range(1, 15))] * 46)

    def test_behind_a_refusal_and_a_change(self):
        line = [grant(0, 1, 1, 1)] * 7 + [grant(1, 2, 1, 1)] * 7
        self.assertEqual(ask(*line, fewest(2, 1), grant(0, 2, 1, 1), fewest(2, 1), revoke(1, 2, 1), fewest(2, 1),
                             grant(0, 2, 1, 1), fewest(2, 1))[14:],
                         [(7, 1, 2, 3, 4, 5, 6, 7), (-5,), (7, 1, 2, 3, 4, 5, 6, 7), (7,), NO_GRANT, (15,), (1, 15)])


class Afterwards(unittest.TestCase):
    line = [grant(0, 1, 1, 1), grant(0, 2, 1, 1), grant(1, 3, 1, 1), grant(2, 3, 1, 1), grant(3, 4, 1, 0),
            grant(2, 4, 1, 0)]

    def test_behind_each_way_to_take(self):
        self.assertEqual(last(*self.line, fewest(4, 1)), (2, 1, 2))
        self.assertEqual(last(*self.line, revoke(1, 3, 1), fewest(4, 1)), (1, 2))
        self.assertEqual(last(*self.line, careful(0, 1, 1), fewest(4, 1)), (1, 2))
        self.assertEqual(last(*self.line, leave(2), fewest(4, 1)), (1, 1))
        self.assertEqual(last(*self.line, over(0, 2, 1), fewest(4, 1)), (2, 5, 6))


class Refused(unittest.TestCase):
    line = [grant(0, 1, 1, 1), grant(1, 12, 1, 1), grant(0, 12, 4, 1), grant(12, 1, 4, 0)]

    def test_what_does_not_fit(self):
        for u, r in ((0, 1), (13, 1), (BIG, 1), (1, 0), (1, 5), (12, BIG), (0, 0), (13, 5), (BIG, BIG)):
            self.assertEqual(last(*self.line, fewest(u, r)), UNFIT)

    def test_edges_that_fit(self):
        self.assertEqual(ask(*self.line, fewest(1, 1), fewest(12, 1), fewest(1, 4), fewest(12, 4))[4:],
                         [(1, 1), (1, 1), (1, 3), (1, 3)])

    def test_who_has_nothing_of_the_right(self):
        for u, r in ((2, 1), (11, 1), (1, 2), (12, 3), (2, 4)):
            self.assertEqual(ask(*self.line, has(u, r), fewest(u, r))[4:], [(0,), NO_GRANT])

    def test_what_does_not_fit_is_told_ahead_of_nothing(self):
        self.assertEqual(ask(fewest(0, 1), fewest(13, 1), fewest(1, 5), fewest(1, 1)), [UNFIT, UNFIT, UNFIT, NO_GRANT])

    def test_asking_changes_nothing(self):
        asked = [fewest(1, 1), fewest(12, 4), fewest(0, 1), fewest(2, 1)]
        self.assertEqual(state(self.line + asked), state(self.line))


if __name__ == "__main__":
    unittest.main()
