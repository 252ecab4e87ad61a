"""The document's words once more, written another way: grants are looked up by number, and whether one
stands is asked backwards, from the grant to the house, not by going through them in order. The fewest are
sought among all rows there are, and held against all chains there are."""

import itertools


def fits(a, b, r):
    return a in range(13) and b in range(1, 13) and r in range(1, 5) and a != b


class Oracle:
    def __init__(self):
        self.grants = {}
        self.made = 0

    def gives_on(self, n, user, r):
        giver, taker, right, leave = self.grants[n]
        return taker == user and right == r and leave == 1

    def stands(self, n, gone):
        """A row of grants with rising numbers leads from the house to n, each with leave to hand on."""
        if n in gone:
            return False
        giver, taker, right, leave = self.grants[n]
        return giver == 0 or any(self.gives_on(m, giver, right) and self.stands(m, gone)
                                 for m in self.grants if m < n)

    def left(self, gone):
        return {n: g for n, g in self.grants.items() if self.stands(n, gone)}

    def what(self, grants, u, r):
        return max([1 + g[3] for g in grants.values() if g[1] == u and g[2] == r], default=0)

    def shrink(self, left):
        fewer = len(self.grants) - len(left)
        self.grants = left
        return fewer

    def between(self, a, b, r):
        return {n for n, g in self.grants.items() if g[:3] == (a, b, r)}

    def grant(self, a, b, r, p):
        if not fits(a, b, r) or p not in (0, 1):
            return [-1]
        if a != 0 and self.what(self.grants, a, r) != 2:
            return [-6]
        if sum(g[2] == r for g in self.grants.values()) == 14:
            return [-5]
        self.made += 1
        self.grants[self.made] = (a, b, r, p)
        return [self.made]

    def take(self, a, b, r, way):
        if not fits(a, b, r):
            return [-1]
        gone = self.between(a, b, r)
        return way(a, b, r, gone) if gone else [-3]

    def revoke(self, a, b, r):
        return self.take(a, b, r, lambda a, b, r, gone: [self.shrink(self.left(gone))])

    def careful(self, a, b, r):
        return self.take(a, b, r, self.take_with_care)

    def take_with_care(self, a, b, r, gone):
        left = self.left(gone)
        if any(self.what(left, u, r) < self.what(self.grants, u, r) for u in range(1, 13) if u != b):
            return [-6]
        return [self.shrink(left)]

    def over(self, a, b, r):
        return self.take(a, b, r, self.hand_over)

    def hand_over(self, a, b, r, gone):
        def as_it_is(n):
            giver, taker, right, leave = self.grants[n]
            return giver == 0 or any(self.gives_on(m, giver, right) and stays(m) for m in self.grants if m < n)

        def moves(n):
            giver, taker, right, leave = self.grants[n]
            return right == r and giver == b and taker != a and not as_it_is(n)

        def stays(n):
            return n not in gone and (as_it_is(n) or moves(n))

        moved = {n for n in self.grants if stays(n) and moves(n)}
        left = {n: (a,) + g[1:] if n in moved else g for n, g in self.grants.items() if stays(n)}
        return [self.shrink(left), len(moved)]

    def leave(self, u):
        if u not in range(1, 13):
            return [-1]
        return [self.shrink(self.left({n for n, g in self.grants.items() if u in g[:2]}))]

    def has(self, u, r):
        if u not in range(1, 13) or r not in range(1, 5):
            return [-1]
        return [self.what(self.grants, u, r)]

    def to_whom_has(self, u, r, way):
        has = self.has(u, r)[0]
        if has < 0:
            return [-1]
        return counted(way(u, r)) if has else [-3]

    def chain(self, u, r):
        return self.to_whom_has(u, r, lambda u, r: self.chain_up_to(u, r, (0, 1)))

    def chain_up_to(self, u, r, leaves):
        n, giver = min((n, g[0]) for n, g in self.grants.items() if g[1:3] == (u, r) and g[3] in leaves)
        return [n] if giver == 0 else self.chain_up_to(giver, r, (1,)) + [n]

    def behind(self, n):
        return counted(sorted(set(self.grants) - set(self.left({n})))) if n in self.grants else [-2]

    def chains_from(self, start, u, r):
        """Every row of grants with rising numbers, as a set, by which u has the right from the giver of the first."""
        giver, taker, right, leave = self.grants[start]
        found = [{start}] if taker == u else []
        if leave == 1:
            for n in self.grants:
                if n > start and self.grants[n][0] == taker and self.grants[n][2] == r:
                    found += [{start} | chain for chain in self.chains_from(n, u, r)]
        return found

    def all_chains(self, u, r):
        return [chain for n, g in self.grants.items() if g[0] == 0 and g[2] == r for chain in self.chains_from(n, u, r)]

    def fewest(self, u, r):
        return self.to_whom_has(u, r, self.first_row_of_fewest)

    def first_row_of_fewest(self, u, r):
        chains = self.all_chains(u, r)
        numbers = sorted(n for n, g in self.grants.items() if g[2] == r)
        rows = itertools.chain.from_iterable(itertools.combinations(numbers, k) for k in range(len(numbers) + 1))
        return list(next(row for row in rows if not any(chain.isdisjoint(row) for chain in chains)))

    def users(self, r):
        return counted([u for u in range(1, 13) if self.has(u, r)[0]]) if r in range(1, 5) else [-1]

    def grants_of(self, r):
        if r not in range(1, 5):
            return [-1]
        told = [[n, g[0], g[1], g[3]] for n, g in sorted(self.grants.items()) if g[2] == r]
        return [len(told)] + sum(told, [])

    def lose(self, a, b, r):
        return self.take(a, b, r, self.who_would_lose)

    def who_would_lose(self, a, b, r, gone):
        left = self.left(gone)
        return counted([u for u in range(1, 13) if self.what(left, u, r) < self.what(self.grants, u, r)])


def counted(numbers):
    return [len(numbers)] + numbers


def expected(calls):
    """The answers to a list of calls, each a list that begins with the call's number."""
    oracle = Oracle()
    ways = (oracle.grant, oracle.revoke, oracle.over, oracle.careful, oracle.leave, oracle.has,
            oracle.chain, oracle.behind, oracle.fewest, oracle.users, oracle.grants_of, oracle.lose)
    answered = []
    for call in calls:
        numbers = ways[call[0]](*call[1:])
        answered += [len(numbers)] + numbers
    return answered
