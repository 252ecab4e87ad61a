import unittest

from tests.lines import BIG, NO_NUMBER
from tests.lines import ask, behind, careful, grant, last, leave, over, revoke, state


class Ordinary(unittest.TestCase):
    def test_nothing_hangs_on_it(self):
        self.assertEqual(last(grant(0, 1, 1, 1), grant(0, 2, 1, 1), behind(2)), (1, 2))

    def test_all_that_hangs_on_it(self):
        line = [grant(0, 1, 1, 1), grant(0, 2, 1, 1), grant(1, 3, 1, 1), grant(2, 4, 1, 1), grant(3, 5, 1, 1),
                grant(1, 6, 1, 0)]
        self.assertEqual(ask(*line, *[behind(n) for n in range(1, 7)])[6:],
                         [(4, 1, 3, 5, 6), (2, 2, 4), (2, 3, 5), (1, 4), (1, 5), (1, 6)])

    def test_what_could_be_given_by_another_earlier_grant_stays(self):
        line = [grant(0, 1, 1, 1), grant(0, 2, 1, 1), grant(1, 3, 1, 1), grant(2, 3, 1, 1), grant(3, 4, 1, 0)]
        self.assertEqual(ask(*line, behind(1), behind(3), behind(4))[5:], [(2, 1, 3), (1, 3), (1, 4)])

    def test_what_could_be_given_only_by_a_later_grant_falls(self):
        line = [grant(0, 1, 1, 1), grant(1, 2, 1, 0), grant(0, 1, 1, 1), grant(1, 3, 1, 0)]
        self.assertEqual(ask(*line, behind(1), behind(3))[4:], [(2, 1, 2), (1, 3)])

    def test_what_could_be_given_only_without_leave_falls(self):
        line = [grant(0, 1, 1, 0), grant(0, 1, 1, 1), grant(1, 2, 1, 0)]
        self.assertEqual(ask(*line, behind(1), behind(2))[3:], [(1, 1), (2, 2, 3)])

    def test_the_grant_alone_not_all_between_the_two(self):
        line = [grant(0, 1, 1, 1), grant(0, 1, 1, 1), grant(0, 1, 1, 0), grant(1, 2, 1, 0)]
        self.assertEqual(ask(*line, behind(1), behind(2), behind(3))[4:], [(1, 1), (1, 2), (1, 3)])

    def test_two_who_granted_it_to_each_other(self):
        line = [grant(0, 1, 1, 1), grant(1, 2, 1, 1), grant(2, 1, 1, 1), grant(1, 2, 1, 1)]
        self.assertEqual(ask(*line, *[behind(n) for n in range(1, 5)])[4:],
                         [(4, 1, 2, 3, 4), (2, 2, 3), (1, 3), (1, 4)])

    def test_other_rights_stay(self):
        line = [grant(0, 1, 1, 1), grant(0, 1, 2, 1), grant(1, 2, 2, 1), grant(1, 2, 1, 1)]
        self.assertEqual(ask(*line, behind(1), behind(2))[4:], [(2, 1, 4), (2, 2, 3)])

    def test_numbers_above_those_of_users(self):
        line = [grant(0, 1, r, 1) for r in (1, 2, 3, 4) for n in range(7)] + [grant(1, 2, 4, 0)]
        self.assertEqual(ask(*line, behind(28), behind(29), behind(30))[29:], [(1, 28), (1, 29), NO_NUMBER])


class Afterwards(unittest.TestCase):
    line = [grant(0, 1, 1, 1), grant(1, 2, 1, 1), grant(2, 3, 1, 1), grant(3, 4, 1, 0), grant(0, 3, 1, 1)]

    def test_behind_each_way_to_take(self):
        self.assertEqual(ask(*self.line, revoke(1, 2, 1), behind(1), behind(2), behind(3), behind(5))[6:],
                         [(1, 1), NO_NUMBER, NO_NUMBER, (1, 5)])
        self.assertEqual(ask(*self.line, careful(3, 4, 1), behind(1), behind(4))[6:], [(3, 1, 2, 3), NO_NUMBER])
        self.assertEqual(ask(*self.line, leave(3), behind(1), behind(5))[6:], [(2, 1, 2), NO_NUMBER])
        self.assertEqual(ask(*self.line, over(1, 2, 1), behind(1), behind(2), behind(3))[6:],
                         [(3, 1, 3, 4), NO_NUMBER, (2, 3, 4)])

    def test_a_number_is_not_given_again(self):
        self.assertEqual(ask(grant(0, 1, 1, 1), revoke(0, 1, 1), grant(0, 1, 1, 1), behind(1), behind(2))[3:],
                         [NO_NUMBER, (1, 2)])

    def test_as_many_as_revoke_then_takes(self):
        for n, (a, b) in ((1, (0, 1)), (2, (1, 2)), (3, (2, 3)), (4, (3, 4)), (5, (0, 3))):
            told = last(*self.line, behind(n))
            self.assertEqual(last(*self.line, revoke(a, b, 1)), told[:1])
            self.assertEqual(len(told), told[0] + 1)


class Refused(unittest.TestCase):
    line = [grant(0, 1, 1, 1), grant(1, 2, 1, 1), grant(3, 4, 1, 1), grant(1, 1, 1, 1)]

    def test_no_such_grant(self):
        self.assertEqual(ask(behind(0), behind(1), behind(BIG)), [NO_NUMBER] * 3)
        for n in (0, 3, 4, 13, BIG):
            self.assertEqual(last(*self.line, behind(n)), NO_NUMBER)

    def test_edges_that_there_are(self):
        self.assertEqual(ask(*self.line, behind(1), behind(2))[4:], [(2, 1, 2), (1, 2)])

    def test_asking_changes_nothing(self):
        asked = [behind(1), behind(2), behind(0), behind(3)]
        self.assertEqual(state(self.line + asked), state(self.line))


if __name__ == "__main__":
    unittest.main()
