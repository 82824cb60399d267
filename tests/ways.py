"""A second, plain way to go through programs: item by item, with each round gone through up to so many times."""

from takenup.blocks import Block
from takenup.items import Round, Skip, Told


def ways_through(items, at, most):
    """The set of all ways through items, rounds gone through up to most times, as tuples of places."""
    ways = {()}
    for item in items:
        ways = {one + other for one in ways for other in ways_through_item(item, at, most)}
        at += steps_in(item)
    return ways


def ways_through_item(item, at, most):
    if isinstance(item, (Block, Told)):
        return {(at,)}
    once = ways_through(item.members, at, most)
    if isinstance(item, Skip):
        return once | {()}
    assert isinstance(item, Round)
    ways = set(once)
    more = set(once)
    for _ in range(most - 1):
        more = {one + other for one in more for other in once}
        ways |= more
    return ways


def steps_in(item):
    if isinstance(item, (Block, Told)):
        return 1
    return sum(steps_in(one) for one in item)


def is_small(program):
    """Whether the ways, with rounds gone through twice, are not too many."""
    return ways_count(program.members) <= 5000


def ways_count(items):
    many = 1
    for item in items:
        if not isinstance(item, (Block, Told)):
            inner = ways_count(item.members)
            many *= inner + 1 if isinstance(item, Skip) else inner + inner * inner
        if many > 5000:
            return many
    return many


def starts_and_nexts(program):
    """The starts, and the next places of each place, by all ways in which rounds are gone through up to twice."""
    ways = ways_through(program.members, 0, 2)
    starts, nexts = set(), [set() for _ in range(len(program) + 1)]
    for way in ways:
        way = way + (len(program),)
        starts.add(way[0])
        for one, other in zip(way, way[1:]):
            nexts[one].add(other)
    return tuple(sorted(starts)), [tuple(sorted(places)) for places in nexts]


class Walk:
    """Goes through a program item by item, with what is still to be done as a row of tasks.

    A task is the path to an item, and whether it is a round that has been gone through and may be gone through again.
    A state is a place and the tasks behind its step, as (place, tasks); the end has no tasks.
    """

    def __init__(self, program):
        self.program = program
        self.items, self.places = {}, {}
        self.end = 0
        for at, item in enumerate(program.members):
            self.number(item, (at,))
        first = tuple(((at,), False) for at in range(len(program.members)))
        self.starts = self.states_ahead(first)

    def number(self, item, path):
        self.items[path] = item
        if isinstance(item, (Block, Told)):
            self.places[path] = self.end
            self.end += 1
        else:
            for at, one in enumerate(item):
                self.number(one, path + (at,))

    def states_ahead(self, tasks):
        """The states to which these tasks can lead with the next step."""
        states, seen, queue = set(), {tasks}, [tasks]
        while queue:
            tasks = queue.pop()
            for more in self.choices_for(tasks, states):
                if more not in seen:
                    seen.add(more)
                    queue.append(more)
        return states

    def choices_for(self, tasks, states):
        if not tasks:
            states.add((self.end, None))
            return []
        (path, again), rest = tasks[0], tasks[1:]
        if path in self.places:
            states.add((self.places[path], rest))
            return []
        inner = tuple((path + (at,), False) for at in range(len(self.items[path])))
        if isinstance(self.items[path], Skip):
            return [inner + rest, rest]
        around = inner + ((path, True),) + rest
        return [around, rest] if again else [around]

    def nexts(self, state):
        return set() if state[1] is None else self.states_ahead(state[1])

    def states_at(self, place):
        """All states with this place to which runs lead."""
        seen, queue = set(self.starts), list(self.starts)
        while queue:
            for state in self.nexts(queue.pop()):
                if state not in seen:
                    seen.add(state)
                    queue.append(state)
        return {state for state in seen if state[0] == place}

    def runs(self, most, begin=None, limit=3000):
        """All runs of at most so many steps, in order; None if they are more than limit."""
        states = self.starts if begin is None else self.states_at(begin)
        layer = self.grouped((), states)
        runs = []
        for done in range(most + 1):
            runs.extend(sorted(layer))
            if len(runs) > limit:
                return None
            if done < most:
                longer = {}
                for run, held in layer.items():
                    ahead = set()
                    for state in held:
                        ahead |= self.nexts(state)
                    longer.update(self.grouped(run, ahead))
                layer = longer
        return runs

    def grouped(self, run, states):
        groups = {}
        for state in states:
            groups.setdefault(run + (state[0],), set()).add(state)
        return groups

    def can_miss(self, place, other):
        """Whether some run that stands at place has not been at other ahead of it."""
        seen = {state for state in self.starts if state[0] == place or state[0] != other}
        queue = list(seen)
        while queue:
            state = queue.pop()
            if state[0] == place:
                return True
            for ahead in self.nexts(state):
                if ahead not in seen and (ahead[0] == place or ahead[0] != other):
                    seen.add(ahead)
                    queue.append(ahead)
        return False
