import itertools
import random
import unittest

from grantsback.house import answers
from tests.lines import careful, grant, has, joined, leave, over, revoke
from tests.oracle import expected

ODD_NUMBERS = (0, 12, 13, 4, 5, 2, 4294967295)


def some_call(chance, users, rights, tried):
    """One call; most often such a one that has something to do, by the grants that were tried ahead of it."""
    def number(low, high):
        return chance.choice(ODD_NUMBERS) if chance.random() < 0.01 else chance.randint(low, high)

    way = chance.random()
    if way < 0.6:
        giver = chance.choice([0, 0] + [b for a, b, r in tried]) if chance.random() < 0.9 else number(0, users)
        right = chance.choice([r for a, b, r in tried if b == giver] or [number(1, rights)])
        taker = number(1, users)
        tried.append((giver, taker, right))
        return grant(giver, taker, right, 1 if chance.random() < 0.75 else number(0, 1))
    if way < 0.65:
        return leave(number(1, users))
    if way < 0.75 or not tried:
        return has(number(1, users), number(1, rights))
    a, b, r = chance.choice(tried) if chance.random() < 0.9 else (number(0, users), number(1, users), number(1, rights))
    return chance.choice((revoke, over, over, careful))(a, b, r)


def some_line(seed):
    chance = random.Random(seed)
    users = chance.choice((2, 3, 4, 5, 6, 12))
    rights = chance.choice((1, 1, 2, 4))
    tried = []
    line = [some_call(chance, users, rights, tried) for n in range(chance.randint(1, 48))]
    return line + [has(u, 1) for u in range(1, 13)]


class AgainstOracle(unittest.TestCase):
    def compare(self, line):
        self.assertEqual(answers(joined(line)), expected(line), line)

    def test_lines_of_all_calls(self):
        for seed in range(3000):
            self.compare(some_line(seed))

    def test_every_way_to_take_from_every_small_house(self):
        # The house, three users, one right, all with leave: every row of four grants behind the first one.
        people = [(a, b) for a in range(4) for b in range(1, 4) if a != b]
        look = [has(u, 1) for u in range(1, 4)]
        for row in itertools.product(people, repeat=4):
            line = [grant(0, 1, 1, 1)] + [grant(a, b, 1, 1) for a, b in row]
            a, b = row[0]
            for take in (revoke, over, careful):
                self.compare(line + [take(a, b, 1)] + look + [leave(2)] + look)


if __name__ == "__main__":
    unittest.main()
