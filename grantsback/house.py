"""A house of rights, and the answers to a line of calls on it."""

from grantsback.chains import chain_to
from grantsback.chains import fewest_that_cut
from grantsback.words import Grant
from grantsback.words import LAST_USER
from grantsback.words import how_many_new_givers
from grantsback.words import is_between
from grantsback.words import is_right
from grantsback.words import is_user
from grantsback.words import may_give
from grantsback.words import numbers_gone
from grantsback.words import of_right
from grantsback.words import taken_back
from grantsback.words import taken_over
from grantsback.words import users_with
from grantsback.words import users_with_less
from grantsback.words import what_stands
from grantsback.words import what_user_has

MOST_GRANTS_OF_A_RIGHT = 14

DOES_NOT_FIT = -1
NO_SUCH_NUMBER = -2
NO_SUCH_GRANT = -3
FULL = -5
NOT_ALLOWED = -6

CALL_GRANT = 0
CALL_REVOKE = 1
CALL_OVER = 2
CALL_CAREFUL = 3
CALL_LEAVE = 4
CALL_HAS = 5
CALL_CHAIN = 6
CALL_BEHIND = 7
CALL_FEWEST = 8
CALL_USERS = 9
CALL_GRANTS = 10

# How many whole numbers stand behind each call's own number, by that number; lose, 11, is the last.
ARGUMENTS = (4, 3, 3, 3, 1, 2, 2, 1, 2, 1, 1, 3)


def names_fit(giver, taker, right):
    # A giver of 0 is the house, so the giver is held only from above.
    return giver <= LAST_USER and is_user(taker) and is_right(right) and giver != taker


def counted(numbers):
    return [len(numbers)] + numbers


class House:
    """The grants that there are, all of which stand. Each call answers a list of whole numbers."""

    def __init__(self):
        self.standing = []
        # Kept apart from the list, since a number isn't given again when its grant has gone.
        self.last_number = 0

    def grant(self, giver, taker, right, onward):
        if not names_fit(giver, taker, right) or onward > 1:
            return [DOES_NOT_FIT]
        if not may_give(giver, right, self.standing):
            return [NOT_ALLOWED]
        if len(of_right(right, self.standing)) >= MOST_GRANTS_OF_A_RIGHT:
            return [FULL]
        self.last_number = self.last_number + 1
        self.standing.append(Grant(self.last_number, giver, taker, right, onward))
        return [self.last_number]

    def revoke(self, giver, taker, right):
        refusal = self.refusal_between(giver, taker, right)
        if refusal != []:
            return refusal
        return [self.keep(taken_back(giver, taker, right, self.standing))]

    def over(self, giver, taker, right):
        refusal = self.refusal_between(giver, taker, right)
        if refusal != []:
            return refusal
        kept = taken_over(giver, taker, right, self.standing)
        moved = how_many_new_givers(self.standing, kept)
        return [self.keep(kept), moved]

    def careful(self, giver, taker, right):
        refusal = self.refusal_between(giver, taker, right)
        if refusal != []:
            return refusal
        kept = taken_back(giver, taker, right, self.standing)
        for user in users_with_less(right, self.standing, kept):
            if user != taker:
                return [NOT_ALLOWED]
        return [self.keep(kept)]

    def leave(self, user):
        if not is_user(user):
            return [DOES_NOT_FIT]
        others = [grant for grant in self.standing if grant.giver != user and grant.taker != user]
        return [self.keep(what_stands(others))]

    def has(self, user, right):
        if not is_user(user) or not is_right(right):
            return [DOES_NOT_FIT]
        return [what_user_has(user, right, self.standing)]

    def chain(self, user, right):
        refusal = self.refusal_without(user, right)
        if refusal != []:
            return refusal
        return counted([grant.number for grant in chain_to(user, right, self.standing)])

    def behind(self, number):
        others = [grant for grant in self.standing if grant.number != number]
        if len(others) == len(self.standing):
            return [NO_SUCH_NUMBER]
        return counted(numbers_gone(self.standing, what_stands(others)))

    def fewest(self, user, right):
        refusal = self.refusal_without(user, right)
        if refusal != []:
            return refusal
        return counted(fewest_that_cut(user, right, self.standing))

    def users(self, right):
        if not is_right(right):
            return [DOES_NOT_FIT]
        return counted(users_with(right, self.standing))

    def grants(self, right):
        if not is_right(right):
            return [DOES_NOT_FIT]
        given = of_right(right, self.standing)
        told = [len(given)]
        for grant in given:
            told.extend([grant.number, grant.giver, grant.taker, grant.onward])
        return told

    def lose(self, giver, taker, right):
        refusal = self.refusal_between(giver, taker, right)
        if refusal != []:
            return refusal
        kept = taken_back(giver, taker, right, self.standing)
        return counted(users_with_less(right, self.standing, kept))

    def refusal_between(self, giver, taker, right):
        """The answer that refuses to take anything from the giver's grants to the taker; [] if there is none."""
        if not names_fit(giver, taker, right):
            return [DOES_NOT_FIT]
        for grant in self.standing:
            if is_between(giver, taker, right, grant):
                return []
        return [NO_SUCH_GRANT]

    def refusal_without(self, user, right):
        """The answer that refuses to tell how the user has the right; [] if there is none."""
        if not is_user(user) or not is_right(right):
            return [DOES_NOT_FIT]
        if what_user_has(user, right, self.standing) == 0:
            return [NO_SUCH_GRANT]
        return []

    def keep(self, kept):
        """Leaves just these grants; answers how many there are fewer."""
        fewer = len(self.standing) - len(kept)
        self.standing = kept
        return fewer


def answer(house, call, numbers):
    if call == CALL_GRANT:
        return house.grant(numbers[0], numbers[1], numbers[2], numbers[3])
    if call == CALL_REVOKE:
        return house.revoke(numbers[0], numbers[1], numbers[2])
    if call == CALL_OVER:
        return house.over(numbers[0], numbers[1], numbers[2])
    if call == CALL_CAREFUL:
        return house.careful(numbers[0], numbers[1], numbers[2])
    if call == CALL_LEAVE:
        return house.leave(numbers[0])
    if call == CALL_HAS:
        return house.has(numbers[0], numbers[1])
    if call == CALL_CHAIN:
        return house.chain(numbers[0], numbers[1])
    if call == CALL_BEHIND:
        return house.behind(numbers[0])
    if call == CALL_FEWEST:
        return house.fewest(numbers[0], numbers[1])
    if call == CALL_USERS:
        return house.users(numbers[0])
    if call == CALL_GRANTS:
        return house.grants(numbers[0])
    # ARGUMENTS lets no call but lose come this far.
    return house.lose(numbers[0], numbers[1], numbers[2])


def answers(calls):
    """For each call of the line, in order: how many numbers are answered, then these."""
    house = House()
    answered = []
    place = 0
    while place < len(calls):
        call = calls[place]
        after = place + 1 + ARGUMENTS[call]
        numbers = answer(house, call, calls[place + 1:after])
        answered.append(len(numbers))
        answered.extend(numbers)
        place = after
    return answered
