"""The words of the document: grants, what stands of them, and what a user has by them."""

HOUSE = 0
LAST_USER = 12
LAST_RIGHT = 4


class Grant:
    """One grant. It is not changed once it is made, so that lists may share it."""

    def __init__(self, number, giver, taker, right, onward):
        self.number = number
        self.giver = giver
        self.taker = taker
        self.right = right
        self.onward = onward


def is_user(user):
    return 1 <= user <= LAST_USER


def is_right(right):
    return 1 <= right <= LAST_RIGHT


def of_right(right, grants):
    return [grant for grant in grants if grant.right == right]


def is_between(giver, taker, right, grant):
    return grant.giver == giver and grant.taker == taker and grant.right == right


def what_user_has(user, right, grants):
    """2 with leave to hand the right on, 1 without, 0 if the user does not have it."""
    most = 0
    for grant in of_right(right, grants):
        if grant.taker == user:
            most = max(most, 1 + grant.onward)
    return most


def may_give(giver, right, grants):
    return giver == HOUSE or what_user_has(giver, right, grants) == 2


def what_stands(grants):
    # Only those ahead that stand count: this is why two who granted to each other don't keep a right alive.
    standing = []
    for grant in grants:
        if may_give(grant.giver, grant.right, standing):
            standing.append(grant)
    return standing


def without_between(giver, taker, right, grants):
    return [grant for grant in grants if not is_between(giver, taker, right, grant)]


def taken_back(giver, taker, right, grants):
    """What stays when the giver's grants of the right to the taker are taken back."""
    return what_stands(without_between(giver, taker, right, grants))


def taken_over(giver, taker, right, grants):
    """What stays, with its new givers, when the giver's grants of the right to the taker are taken over."""
    kept = []
    for grant in without_between(giver, taker, right, grants):
        if may_give(grant.giver, grant.right, kept):
            kept.append(grant)
        elif grant.giver == taker and grant.right == right and grant.taker != giver:
            kept.append(Grant(grant.number, giver, grant.taker, right, grant.onward))
    return kept


def how_many_new_givers(before, after):
    giver_before = {}
    for grant in before:
        giver_before[grant.number] = grant.giver
    return len([grant for grant in after if grant.giver != giver_before[grant.number]])


def numbers_gone(before, after):
    kept = [grant.number for grant in after]
    return [grant.number for grant in before if grant.number not in kept]


def users_with(right, grants):
    """The users, rising, who have the right by these grants."""
    return [user for user in range(1, LAST_USER + 1) if what_user_has(user, right, grants) > 0]


def users_with_less(right, before, after):
    """The users, rising, who have less of the right by the grants after than by those before."""
    return [user for user in users_with(right, before)
            if what_user_has(user, right, after) < what_user_has(user, right, before)]
