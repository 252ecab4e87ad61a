import itertools
import unittest

from grantsback.house import answers
from tests.chance import Chance
from tests.lines import behind, careful, chain, fewest, grant, grants, has, joined, leave, lose, over, revoke, users
from tests.oracle import expected


class AgainstOracle(unittest.TestCase):
    def compare(self, line):
        self.assertLessEqual(len(line), 60)
        self.assertEqual(answers(joined(line)), expected(line), line)

    def test_lines_of_all_calls(self):
        for seed in range(3000):
            self.compare(Chance(seed).line())

    def test_lines_with_fourteen_grants_of_a_right(self):
        for seed in range(150):
            self.compare(Chance(seed).line_of_fourteen())

    def test_every_way_to_take_from_every_small_house(self):
        # The house, three users, one right, all with leave: every row of four grants behind the first one.
        people = [(a, b) for a in range(4) for b in range(1, 4) if a != b]
        look = [has(u, 1) for u in range(1, 4)]
        for row in itertools.product(people, repeat=4):
            line = [grant(0, 1, 1, 1)] + [grant(a, b, 1, 1) for a, b in row]
            a, b = row[0]
            for take in (revoke, over, careful):
                self.compare(line + [take(a, b, 1)] + look + [leave(2)] + look)

    def test_every_question_to_every_small_house(self):
        # As above, but the middle ones of the grants are without leave every other time.
        people = [(a, b) for a in range(4) for b in range(1, 4) if a != b]
        everyone = range(1, 4)
        questions = [ask(u, 1) for ask in (chain, fewest) for u in everyone] + [behind(n) for n in range(1, 6)] + [
            lose(a, b, 1) for a, b in people] + [users(1), grants(1)]
        for leaves in ((1, 1, 1, 1), (1, 0, 0, 1)):
            for row in itertools.product(people, repeat=4):
                line = [grant(0, 1, 1, 1)] + [grant(a, b, 1, p) for (a, b), p in zip(row, leaves)]
                self.compare(line + questions)


if __name__ == "__main__":
    unittest.main()
