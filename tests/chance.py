"""Lines of calls by chance."""

import random

from tests.lines import behind, careful, chain, fewest, grant, grants, has, leave, lose, over, revoke, users

ODD_NUMBERS = (0, 12, 13, 4, 5, 2, 4294967295)


class Chance:
    """Calls by chance; most often such that have something to do, by the grants that were tried ahead of them."""

    def __init__(self, seed):
        self.dice = random.Random(seed)
        self.last_user = self.dice.choice((2, 3, 4, 5, 6, 12))
        self.last_right = self.dice.choice((1, 1, 2, 4))
        self.tried = []

    def number(self, low, high):
        return self.dice.choice(ODD_NUMBERS) if self.dice.random() < 0.01 else self.dice.randint(low, high)

    def user(self):
        return self.number(1, self.last_user)

    def right(self):
        return self.number(1, self.last_right)

    def between(self):
        if self.tried and self.dice.random() < 0.9:
            return self.dice.choice(self.tried)
        return self.number(0, self.last_user), self.user(), self.right()

    def making(self):
        givers = [0, 0] + [b for a, b, r in self.tried]
        giver = self.dice.choice(givers) if self.dice.random() < 0.9 else self.number(0, self.last_user)
        right = self.dice.choice([r for a, b, r in self.tried if b == giver] or [self.right()])
        taker = self.user()
        self.tried.append((giver, taker, right))
        return grant(giver, taker, right, 1 if self.dice.random() < 0.75 else self.number(0, 1))

    def taking(self):
        way = self.dice.choice((revoke, over, over, careful, careful, leave))
        return leave(self.user()) if way is leave else way(*self.between())

    def asking(self):
        way = self.dice.choice((has, chain, behind, fewest, users, grants, lose))
        if way is behind:
            return behind(self.number(1, len(self.tried) + 1))
        if way is lose:
            return lose(*self.between())
        return way(self.right()) if way in (users, grants) else way(self.user(), self.right())

    def call(self):
        way = self.dice.random()
        return self.making() if way < 0.6 else self.taking() if way < 0.75 else self.asking()

    def line(self):
        calls = [self.call() for n in range(self.dice.randint(1, 44))]
        return calls + [grants(r) for r in range(1, 5)] + [fewest(u, 1) for u in range(1, 13)]

    def line_of_fourteen(self):
        """Fourteen grants of one right, and all that may be asked of who has it from whom."""
        calls = []
        leaders = [0, 0]
        while len(calls) < 14:
            giver = self.dice.choice(leaders)
            taker = self.dice.randint(1, self.last_user)
            if giver != taker:
                leave_to_hand_on = int(self.dice.random() < 0.9)
                calls.append(grant(giver, taker, 1, leave_to_hand_on))
                leaders += [taker] * leave_to_hand_on
        everyone = range(1, 13)
        return calls + [fewest(u, 1) for u in everyone] + [chain(u, 1) for u in everyone] + [
            behind(n) for n in range(1, 15)]
