"""What the document promises over the whole program, held against the answers alone."""

import itertools
import unittest

from tests.apart import chains_apart
from tests.chance import Chance
from tests.lines import ask, fewest, grant, grants, has, leave, over, revoke

CALL_GRANT = 0
CALL_REVOKE = 1
CALL_OVER = 2
CALL_CAREFUL = 3
CALL_LEAVE = 4
RIGHTS = range(1, 5)


def changing(line):
    return [call for call in line if call[0] <= CALL_LEAVE]


def fours(answer):
    """The number, giver, taker and leave of each grant that is told."""
    return [answer[place:place + 4] for place in range(1, len(answer), 4)]


def told_after(line):
    """The grants of each right behind the calls of the line."""
    return [fours(answer) for answer in ask(*line, *[grants(r) for r in RIGHTS])[-4:]]


def without_numbers(told):
    return [[four[1:] for four in fours_of_right] for fours_of_right in told]


def made_and_not_taken(line):
    """The grants that were made and neither taken back nor of one who left; the line has no call over."""
    made = []
    for call, answer in zip(line, ask(*line)):
        if answer[0] < 0:
            continue
        if call[0] == CALL_GRANT:
            made.append(call)
        if call[0] in (CALL_REVOKE, CALL_CAREFUL):
            made = [other for other in made if other[1:4] != call[1:4]]
        if call[0] == CALL_LEAVE:
            made = [other for other in made if call[1] not in other[1:3]]
    return made


class AskingLeavesAllAsItWas(unittest.TestCase):
    def test_the_others_answer_as_if_nothing_were_asked(self):
        for seed in range(1000):
            line = Chance(seed).line()
            answered = [answer for call, answer in zip(line, ask(*line)) if call[0] <= CALL_LEAVE]
            self.assertEqual(answered, ask(*changing(line)) if changing(line) else [], line)

    def test_a_refusal_leaves_all_as_it_was(self):
        for seed in range(1000):
            line = changing(Chance(seed).line())
            if line:
                done = [call for call, answer in zip(line, ask(*line)) if answer[0] >= 0]
                self.assertEqual(told_after(done), told_after(line), line)


class WhatStands(unittest.TestCase):
    def test_as_if_what_was_taken_back_had_never_been_made(self):
        for seed in range(1000):
            line = [call for call in changing(Chance(seed).line()) if call[0] != CALL_OVER]
            never_made = made_and_not_taken(line) if line else []
            self.assertEqual(without_numbers(told_after(line)), without_numbers(told_after(never_made)), line)

    def test_all_grants_that_there_are_stand(self):
        # Made once more, in their order, none is refused.
        for seed in range(1000):
            told = told_after(changing(Chance(seed).line()))
            again = [grant(a, b, r, p) for n, a, b, p, r in sorted(
                four + (r,) for r, fours_of_right in zip(RIGHTS, told) for four in fours_of_right)]
            if again:
                self.assertEqual(ask(*again), [(n,) for n in range(1, len(again) + 1)])
                self.assertEqual(without_numbers(told_after(again)), without_numbers(told))


class CutOff(unittest.TestCase):
    def is_chain(self, told, user, numbers):
        by_number = {n: (a, b, p) for n, a, b, p in told}
        links = [by_number[n] for n in numbers]
        return (list(numbers) == sorted(numbers) and links[0][0] == 0 and links[-1][1] == user and
                all(first[1] == second[0] and first[2] == 1 for first, second in itertools.pairwise(links)))

    def without(self, told, numbers):
        """The calls that make the others alone; such of them as don't stand then are refused."""
        return [grant(a, b, 1, p) for n, a, b, p in told if n not in numbers]

    def look(self, line):
        told = told_after(line)[0]
        for user, answer in enumerate(ask(*line, *[fewest(u, 1) for u in range(1, 13)])[-12:], start=1):
            if answer[0] < 0:
                continue
            self.assertEqual(len(answer), answer[0] + 1)
            self.assertEqual(ask(*self.without(told, answer[1:]), has(user, 1))[-1], (0,), line)
            # As many chains with nothing in common need as many grants to go: fewer can't do.
            chains = chains_apart(told, user)
            self.assertEqual(len(chains), answer[0], line)
            self.assertTrue(all(self.is_chain(told, user, chain) for chain in chains))
            self.assertEqual(len(sum(chains, [])), len(set(sum(chains, []))))

    def test_by_the_fewest_and_as_many_chains_have_nothing_in_common(self):
        for seed in range(300):
            self.look(changing(Chance(seed).line())[:44])

    def test_with_fourteen_grants_of_the_right(self):
        for seed in range(100):
            self.look(changing(Chance(seed).line_of_fourteen()))

    def test_behind_each_way_to_take(self):
        for seed in range(50):
            line = changing(Chance(seed).line_of_fourteen())
            for take in (revoke(*line[3][1:4]), over(*line[3][1:4]), leave(1)):
                self.look(line + [take])


if __name__ == "__main__":
    unittest.main()
