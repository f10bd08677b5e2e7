"""Searches: what is come to from where, with as few steps as any, and the ways there."""

from firstwake.errors import TooMany

MOST_STATES = 2000


class Search:
    """What a search has come to, with the least number of steps that count, and what stands before each."""

    def __init__(self):
        self.least = {}
        self.befores = {}
        self.goal = None

    def put(self, state, many, before, step):
        """Keep a state that so many steps lead to, the last one from the state before; None is a step not counted."""
        self.least[state] = many
        self.befores[state] = (before, step)

    def states_to(self, state):
        """Return the list of the states on the way to the state, itself the last one."""
        backwards = []
        while state is not None:
            backwards.append(state)
            state = self.befores[state][0]
        return backwards[::-1]

    def steps_to(self, state):
        """Return the list of the counted steps on the way to the state; None is what stands before all of them."""
        steps = [self.befores[one][1] for one in self.states_to(state)]
        return [step for step in steps if step is not None]


def spread(search, firsts, follow, goal):
    """Put into the empty search all that the first states lead to, or as much as is come to before the goal.

    follow(state) returns a list of pairs (following state, step), step None where it does not count.
    """
    many, now, later = 0, [(state, None, None) for state in firsts], []
    while now:
        state, before, step = now.pop()
        if state == goal:
            search.put(state, many, before, step)
            search.goal = state
            return
        if state not in search.least:
            if len(search.least) == MOST_STATES:
                raise TooMany("there is too much to come to")
            search.put(state, many, before, step)
            for following, taken in follow(state):
                if taken is None:
                    now.append((following, state, taken))
                else:
                    later.append((following, state, taken))
        if not now:
            many, now, later = many + 1, later, []


def spread_evenly(first, follow, is_goal):
    """Return the Search of what the first state leads to, or of as much as is come to with the first goals.

    follow(state) returns a list of pairs (step, following state), each of which counts. Too many are only those
    before the goals: all that is come to with one number of steps is looked through before more are refused.
    """
    search = Search()
    many, found = 0, [(first, None, None)]
    while found:
        fresh = []
        for state, before, step in found:
            if state not in search.least:
                search.put(state, many, before, step)
                fresh.append(state)
        for state in fresh:
            if is_goal(state):
                search.goal = state
                return search
        if len(search.least) > MOST_STATES:
            raise TooMany("there are too many states")
        found = [(following, state, step) for state in fresh for step, following in follow(state)]
        many += 1
    return search
