"""The chain of a right to a user, and the fewest grants by which a user is cut off."""

from grantsback.words import HOUSE
from grantsback.words import of_right


def first_to(user, grants):
    return [grant for grant in grants if grant.taker == user][0]


def chain_to(user, right, grants):
    """The chain of the right, the house's grant first; the grants all stand, and the user has the right by them."""
    given = of_right(right, grants)
    with_leave = [grant for grant in given if grant.onward == 1]
    link = first_to(user, given)
    chain = [link]
    while link.giver != HOUSE:
        link = first_to(link.giver, with_leave)
        chain = [link] + chain
    return chain


def shortest_chain(user, grants):
    """Of grants of one right, as few as can be that lead from the house to the user; [] if none do."""
    to_user = []
    to_giver = {HOUSE: []}
    for grant in grants:
        if grant.giver in to_giver:
            chain = to_giver[grant.giver] + [grant]
            if grant.taker == user:
                to_user.append(chain)
            if grant.onward == 1 and (grant.taker not in to_giver or len(chain) < len(to_giver[grant.taker])):
                to_giver[grant.taker] = chain
    return min(to_user, key=len, default=[])


def rows_that_cut(user, grants, most):
    """Rows, rising, of at most so many grants of one right that cut the user off; all of the shortest are there."""
    # Of each chain a grant must go, so it's enough to try those of one; the shortest has the fewest to try.
    # Each time a grant is gone, and a house has few of a right: this never goes deep.
    chain = shortest_chain(user, grants)
    if chain == []:
        return [[]]
    if most == 0:
        return []
    rows = []
    for gone in chain:
        others = [grant for grant in grants if grant.number != gone.number]
        for row in rows_that_cut(user, others, most - 1):
            rows.append(sorted(row + [gone.number]))
    return rows


def fewest_that_cut(user, right, grants):
    """The numbers of the fewest grants by which the user is cut off from the right, rising."""
    given = of_right(right, grants)
    most = 0
    rows = rows_that_cut(user, given, most)
    while rows == []:
        most = most + 1
        rows = rows_that_cut(user, given, most)
    # A shorter row would have ended the loop sooner: these are all of one length.
    return min(rows)
