import unittest

from grantsback.house import answers
from tests.lines import BIG
from tests.lines import ask, behind, careful, chain, fewest, grant, grants, has, joined, leave, lose, over, revoke
from tests.lines import users

# Each call, and its answer as it stands in the list that is given back.
ASKED_AND_ANSWERED = [
    (grant(0, 1, 1, 1), [1, 1]),
    (grant(1, 2, 1, 1), [1, 2]),
    (grant(2, 3, 1, 1), [1, 3]),
    (grant(3, 4, 1, 0), [1, 4]),
    (has(4, 1), [1, 1]),
    (chain(4, 1), [5, 4, 1, 2, 3, 4]),
    (behind(3), [3, 2, 3, 4]),
    (fewest(4, 1), [2, 1, 1]),
    (users(1), [5, 4, 1, 2, 3, 4]),
    (grants(1), [17, 4, 1, 0, 1, 1, 2, 1, 2, 1, 3, 2, 3, 1, 4, 3, 4, 0]),
    (lose(2, 3, 1), [3, 2, 3, 4]),
    (over(1, 2, 1), [2, 1, 1]),
    (has(2, 1), [1, 0]),
    (chain(4, 1), [4, 3, 1, 3, 4]),
    (behind(2), [1, -2]),
    (fewest(2, 1), [1, -3]),
    (users(1), [4, 3, 1, 3, 4]),
    (grants(1), [13, 3, 1, 0, 1, 1, 3, 1, 3, 1, 4, 3, 4, 0]),
    (lose(2, 3, 1), [1, -3]),
    (careful(1, 3, 1), [1, -6]),
    (lose(1, 3, 1), [3, 2, 3, 4]),
    (careful(3, 4, 1), [1, 1]),
    (chain(3, 1), [3, 2, 1, 3]),
    (behind(1), [3, 2, 1, 3]),
    (fewest(3, 1), [2, 1, 1]),
    (lose(1, 3, 1), [2, 1, 3]),
    (revoke(1, 3, 1), [1, 1]),
    (users(1), [2, 1, 1]),
    (grants(1), [5, 1, 1, 0, 1, 1]),
    (leave(1), [1, 1]),
    (has(1, 1), [1, 0]),
    (chain(1, 1), [1, -3]),
    (behind(1), [1, -2]),
    (fewest(1, 1), [1, -3]),
    (users(1), [1, 0]),
    (grants(1), [1, 0]),
    (lose(0, 1, 1), [1, -3]),
    (grant(0, 1, 1, 1), [1, 5]),
]
EVERY_CALL = [call for call, answer in ASKED_AND_ANSWERED]


class Form(unittest.TestCase):
    def test_how_many_numbers_then_these(self):
        self.assertEqual({call[0] for call in EVERY_CALL}, set(range(12)))
        self.assertEqual(answers(joined(EVERY_CALL)), joined(answer for call, answer in ASKED_AND_ANSWERED))

    def test_a_refusal_stands_alone(self):
        self.assertEqual(answers(joined([over(0, 1, 1), over(13, 1, 1)])), [1, -3, 1, -1])

    def test_one_call(self):
        self.assertEqual(answers([4, 1]), [1, 0])
        self.assertEqual(answers([5, 1, 1]), [1, 0])
        self.assertEqual(answers([6, 1, 1]), [1, -3])
        self.assertEqual(answers([7, 1]), [1, -2])
        self.assertEqual(answers([8, 1, 1]), [1, -3])
        self.assertEqual(answers([9, 1]), [1, 0])
        self.assertEqual(answers([10, 1]), [1, 0])
        self.assertEqual(answers([11, 0, 1, 1]), [1, -3])

    def test_kinds(self):
        answered = answers(joined(EVERY_CALL + [has(0, 0), grant(5, 6, 1, 0), revoke(0, 1, 1)]))
        self.assertIs(type(answered), list)
        self.assertEqual({type(number) for number in answered}, {int})

    def test_the_greatest_numbers(self):
        line = [[0, BIG, BIG, BIG, BIG], [1, BIG, BIG, BIG], [2, BIG, BIG, BIG], [3, BIG, BIG, BIG], [4, BIG],
                [5, BIG, BIG], [6, BIG, BIG], [8, BIG, BIG], [9, BIG], [10, BIG], [11, BIG, BIG, BIG]]
        self.assertEqual(answers(joined(line)), [1, -1] * 11)
        self.assertEqual(answers([7, BIG]), [1, -2])


class Sixty(unittest.TestCase):
    def test_sixty_calls_with_three_hundred_numbers(self):
        line = [grant(0, 1, r, 1) for r in range(1, 5) for n in range(15)]
        self.assertEqual(len(joined(line)), 300)
        expected = []
        for r in range(4):
            expected += [(14 * r + n,) for n in range(1, 15)] + [(-5,)]
        self.assertEqual(ask(*line), expected)

    def test_sixty_calls_that_make_and_take(self):
        line = [grant(0, 1, 1, 1), revoke(0, 1, 1)] * 30
        self.assertEqual(ask(*line), [answer for n in range(1, 31) for answer in ((n,), (1,))])

    def test_sixty_calls_with_the_longest_answers(self):
        line = [grant(0, 1, 1, 1)] * 14 + [grants(1)] * 46
        told = tuple([14] + joined([n, 0, 1, 1] for n in range(1, 15)))
        self.assertEqual(ask(*line)[14:], [told] * 46)


class Guarded(list):
    """A list that tells of any change to it, even one that is made good again."""

    def refuse(self, *args, **kwargs):
        raise AssertionError("the list that was handed in is changed")

    append = extend = insert = pop = remove = clear = sort = reverse = refuse
    __setitem__ = __delitem__ = __iadd__ = __imul__ = refuse


class HandedIn(unittest.TestCase):
    def test_the_list_is_the_same_afterwards(self):
        calls = joined(EVERY_CALL)
        before = list(calls)
        answers(calls)
        self.assertEqual(calls, before)

    def test_the_list_is_not_changed_for_a_while_either(self):
        calls = joined(EVERY_CALL)
        self.assertEqual(answers(Guarded(calls)), answers(calls))

    def test_what_is_given_back_is_another_list(self):
        calls = joined(EVERY_CALL)
        first = answers(calls)
        kept = list(first)
        first.clear()
        self.assertEqual(answers(calls), kept)


class NothingKept(unittest.TestCase):
    def test_a_second_time_is_as_the_first(self):
        calls = joined(EVERY_CALL)
        first = answers(calls)
        self.assertEqual(answers(calls), first)
        self.assertEqual(answers([0, 0, 1, 1, 1]), [1, 1])
        self.assertEqual(answers([0, 0, 1, 1, 1]), [1, 1])

    def test_no_grant_is_left_over(self):
        answers([0, 0, 1, 1, 1])
        self.assertEqual(answers([5, 1, 1, 1, 0, 1, 1, 0, 1, 2, 1, 1]), [1, 0, 1, -3, 1, -6])

    def test_fourteen_are_not_counted_on(self):
        line = joined([grant(0, 1, 1, 1)] * 14)
        first = answers(line)
        self.assertEqual(first, [number for n in range(1, 15) for number in (1, n)])
        self.assertEqual(answers(line), first)


if __name__ == "__main__":
    unittest.main()
