"""Lines of calls, written by name, and what the program answers to them."""

from grantsback.house import answers

BIG = 4294967295

UNFIT = (-1,)
NO_NUMBER = (-2,)
NO_GRANT = (-3,)
FULL = (-5,)
NOT_ALLOWED = (-6,)


def grant(a, b, r, p):
    return [0, a, b, r, p]


def revoke(a, b, r):
    return [1, a, b, r]


def over(a, b, r):
    return [2, a, b, r]


def careful(a, b, r):
    return [3, a, b, r]


def leave(u):
    return [4, u]


def has(u, r):
    return [5, u, r]


def chain(u, r):
    return [6, u, r]


def behind(n):
    return [7, n]


def fewest(u, r):
    return [8, u, r]


def users(r):
    return [9, r]


def grants(r):
    return [10, r]


def lose(a, b, r):
    return [11, a, b, r]


def joined(calls):
    return [number for call in calls for number in call]


def split(numbers):
    """The answers of a line as a list of tuples, one for each call."""
    parts = []
    place = 0
    while place < len(numbers):
        end = place + 1 + numbers[place]
        parts.append(tuple(numbers[place + 1:end]))
        place = end
    return parts


def ask(*calls):
    return split(answers(joined(calls)))


def last(*calls):
    return ask(*calls)[-1]


def holdings(calls, r):
    """What users 1 to 12 have of the right after the calls."""
    asked = list(calls) + [has(u, r) for u in range(1, 13)]
    return tuple(answer[0] for answer in ask(*asked)[len(calls):])


def pairs(calls, r):
    """Who gave the right to whom, after the calls: each pair is tried on a line of its own."""
    return [(a, b) for a in range(13) for b in range(1, 13)
            if a != b and last(*calls, revoke(a, b, r)) != NO_GRANT]


def state(calls):
    """All that the answers let one see of the house after the calls."""
    return [(holdings(calls, r), pairs(calls, r), last(*calls, grants(r)), last(*calls, grant(0, 1, r, 0)))
            for r in range(1, 5)]
