import unittest

from tests.lines import BIG, FULL, NOT_ALLOWED, UNFIT
from tests.lines import ask, grant, has, last, leave, over, pairs, revoke, state


class Ordinary(unittest.TestCase):
    def test_numbers_count_up_over_all_rights(self):
        self.assertEqual(
            ask(grant(0, 1, 1, 1), grant(0, 1, 2, 0), grant(1, 2, 1, 1), grant(2, 3, 1, 0)),
            [(1,), (2,), (3,), (4,)])

    def test_handed_on_over_several_users(self):
        line = [grant(0, 1, 1, 1)] + [grant(u, u + 1, 1, 1) for u in range(1, 12)]
        self.assertEqual(ask(*line), [(n,) for n in range(1, 13)])

    def test_the_house_may_give_every_right(self):
        self.assertEqual(ask(*[grant(0, 5, r, 0) for r in range(1, 5)]), [(1,), (2,), (3,), (4,)])

    def test_the_same_grant_may_be_made_again(self):
        self.assertEqual(ask(grant(0, 1, 1, 1), grant(0, 1, 1, 1), grant(0, 1, 1, 0)), [(1,), (2,), (3,)])

    def test_the_same_right_from_several(self):
        line = [grant(0, 1, 1, 1), grant(0, 2, 1, 1), grant(1, 3, 1, 0), grant(2, 3, 1, 0), grant(0, 3, 1, 0)]
        self.assertEqual(pairs(line, 1), [(0, 1), (0, 2), (0, 3), (1, 3), (2, 3)])

    def test_back_to_ones_own_giver(self):
        self.assertEqual(last(grant(0, 1, 1, 1), grant(1, 2, 1, 1), grant(2, 1, 1, 1)), (3,))


class Refused(unittest.TestCase):
    def test_giver(self):
        for a in (13, 14, BIG):
            self.assertEqual(ask(grant(a, 1, 1, 1)), [UNFIT])

    def test_edges_of_the_giver_that_fit(self):
        self.assertEqual(ask(grant(0, 12, 1, 1), grant(12, 1, 1, 1), grant(1, 2, 1, 1)), [(1,), (2,), (3,)])

    def test_taker(self):
        for b in (0, 13, BIG):
            self.assertEqual(ask(grant(0, 1, 1, 1), grant(1, b, 1, 1)), [(1,), UNFIT])
            self.assertEqual(ask(grant(0, b, 1, 1)), [UNFIT])

    def test_edges_of_the_taker_that_fit(self):
        self.assertEqual(ask(grant(0, 1, 1, 1), grant(0, 12, 1, 1)), [(1,), (2,)])

    def test_right(self):
        for r in (0, 5, BIG):
            self.assertEqual(ask(grant(0, 1, r, 1)), [UNFIT])
        self.assertEqual(ask(grant(0, 1, 1, 1), grant(0, 1, 4, 1)), [(1,), (2,)])

    def test_giver_is_taker(self):
        for u in (0, 1, 12):
            self.assertEqual(ask(grant(0, 1, 1, 1), grant(0, 12, 1, 1), grant(u, u, 1, 1))[2], UNFIT)

    def test_leave_to_hand_on(self):
        for p in (2, 3, BIG):
            self.assertEqual(ask(grant(0, 1, 1, p)), [UNFIT])
        self.assertEqual(ask(grant(0, 1, 1, 0), grant(0, 1, 1, 1)), [(1,), (2,)])

    def test_who_may_not_give(self):
        self.assertEqual(ask(grant(1, 2, 1, 1)), [NOT_ALLOWED])

    def test_without_leave_to_hand_on_one_may_not_give(self):
        self.assertEqual(ask(grant(0, 1, 1, 0), grant(1, 2, 1, 0)), [(1,), NOT_ALLOWED])

    def test_leave_for_another_right_is_not_enough(self):
        self.assertEqual(ask(grant(0, 1, 1, 1), grant(1, 2, 2, 0)), [(1,), NOT_ALLOWED])

    def test_a_later_grant_with_leave_is_enough(self):
        self.assertEqual(ask(grant(0, 1, 1, 0), grant(0, 1, 1, 1), grant(1, 2, 1, 0)), [(1,), (2,), (3,)])

    def test_after_a_later_grant_without_leave_one_may_still_give(self):
        self.assertEqual(ask(grant(0, 1, 1, 1), grant(0, 1, 1, 0), grant(1, 2, 1, 0)), [(1,), (2,), (3,)])

    def test_what_does_not_fit_is_told_ahead_of_who_may_not_give(self):
        for call in (grant(1, 2, 1, 2), grant(1, 2, 5, 0), grant(1, 1, 1, 0), grant(1, 0, 1, 0), grant(13, 2, 1, 0)):
            self.assertEqual(ask(call), [UNFIT])

    def test_all_is_as_it_was(self):
        line = [grant(0, 1, 1, 1), grant(1, 2, 1, 0)]
        before = state(line)
        for call in (grant(2, 3, 1, 0), grant(1, 1, 1, 1), grant(0, 3, 1, 2), grant(0, 13, 1, 1), grant(0, 3, 5, 1)):
            self.assertEqual(state(line + [call]), before)
            self.assertEqual(last(*line, call, grant(0, 3, 1, 0)), (3,))


class FourteenOfARight(unittest.TestCase):
    full = [grant(0, 1, 3, 1)] + [grant(1, b, 3, 0) for b in range(2, 13)] + [grant(0, 2, 3, 0), grant(1, 2, 3, 0)]

    def test_fourteen_and_a_fifteenth(self):
        self.assertEqual(ask(*self.full), [(n,) for n in range(1, 15)])
        for call in (grant(0, 3, 3, 1), grant(1, 3, 3, 0)):
            self.assertEqual(last(*self.full, call), FULL)

    def test_another_right_has_fourteen_of_its_own(self):
        other = [grant(0, 4, 2, 0)] * 14
        self.assertEqual(ask(*self.full, *other, grant(0, 4, 2, 0))[14:], [(n,) for n in range(15, 29)] + [FULL])

    def test_who_may_not_give_is_told_ahead_of_full(self):
        self.assertEqual(last(*self.full, grant(2, 3, 3, 0)), NOT_ALLOWED)

    def test_what_does_not_fit_is_told_ahead_of_full(self):
        self.assertEqual(last(*self.full, grant(0, 3, 3, 2)), UNFIT)

    def test_all_is_as_it_was(self):
        refused = self.full + [grant(0, 3, 3, 1)]
        self.assertEqual(state(refused), state(self.full))
        self.assertEqual(last(*refused, grant(0, 3, 1, 1)), (15,))

    def test_there_is_room_again_when_grants_went(self):
        self.assertEqual(ask(*self.full, revoke(1, 3, 3), grant(0, 3, 3, 1), grant(0, 3, 3, 1))[14:],
                         [(1,), (15,), FULL])


class NumbersNotGivenAgain(unittest.TestCase):
    def test_after_revoke_of_the_last(self):
        self.assertEqual(ask(grant(0, 1, 1, 1), grant(1, 2, 1, 1), revoke(1, 2, 1), grant(1, 2, 1, 1)),
                         [(1,), (2,), (1,), (3,)])

    def test_after_all_went(self):
        self.assertEqual(ask(grant(0, 1, 1, 1), grant(1, 2, 1, 1), leave(1), grant(0, 1, 1, 1)),
                         [(1,), (2,), (2,), (3,)])

    def test_after_over(self):
        self.assertEqual(ask(grant(0, 1, 1, 1), grant(1, 2, 1, 1), over(0, 1, 1), grant(0, 1, 1, 1), has(1, 1)),
                         [(1,), (2,), (1, 1), (3,), (2,)])


if __name__ == "__main__":
    unittest.main()
