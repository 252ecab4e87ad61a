"""Chains to a user that have nothing in common, as many as there are."""

START = "start"
END = "end"


def ways_between(told, user):
    """From where to where a chain may step; each grant is two places, so that no two chains go through it."""
    steps = []
    for n, a, b, p in told:
        steps.append(((n, "in"), (n, "out")))
        if a == 0:
            steps.append((START, (n, "in")))
        if b == user:
            steps.append(((n, "out"), END))
        steps += [((n, "out"), (m, "in")) for m, giver, taker, leave in told if p == 1 and n < m and giver == b]
    return steps


def way_to_end(steps):
    came_from = {START: None}
    places = [START]
    for place in places:
        for here, there in steps:
            if here == place and there not in came_from:
                came_from[there] = here
                places.append(there)
    way = []
    place = END
    while place in came_from and came_from[place] is not None:
        way.append((came_from[place], place))
        place = came_from[place]
    return way


def chains_apart(told, user):
    """The chains, as lists of numbers; told are the number, giver, taker and leave of each grant of a right."""
    steps = ways_between(told, user)
    free = list(steps)
    way = way_to_end(free)
    while way:
        # A step that is taken may later be taken back by another chain, so it is kept the other way round.
        for here, there in way:
            free.remove((here, there))
            free.append((there, here))
        way = way_to_end(free)
    taken = {here: there for here, there in steps if here != START and (there, here) in free}
    chains = []
    for here, there in steps:
        if here == START and (there, here) in free:
            chain = []
            while there != END:
                chain.append(there[0])
                there = taken[taken[there]]
            chains.append(chain)
    return chains
