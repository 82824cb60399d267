"""Where the difference of two registers comes from, step by step back to where both have one source."""


class Closure:
    """Node by node back from where a difference is asked: of which two registers it comes, and what is added.

    A state is a node and two registers that are not the same, told by their indexes, all in one integer. The search
    ends early at a free state, which is one at which a run begins: there two registers have no source in common.
    """

    def __init__(self, field, targets):
        self.graph = field.graph
        self.field = field
        self.many = len(field.registers)
        self.aheads = field.graph.ahead_lists()
        self.order = []
        self.links = {}
        self.entrances = {}
        self.free = None
        for at, one, other in targets:
            self.enter_state(self.state_of(at, one, other), None)
        self.search()

    def state_of(self, at, one, other):
        """The integer of a state."""
        return (at * self.many + one) * self.many + other

    def parts_of(self, state):
        """The node and the two registers of a state."""
        return (state // (self.many * self.many), state // self.many % self.many, state % self.many)

    def enter_state(self, state, link):
        """Enters a state which leads on to another one, its link; the first link counts."""
        if state in self.links:
            return
        self.links[state] = link
        self.order.append(state)
        if self.free is None and self.graph.parents[self.parts_of(state)[0]] is None:
            self.free = state

    def search(self):
        """Goes back from each state, as long as no free one is found."""
        done = 0
        while done < len(self.order) and self.free is None:
            self.go_back(self.order[done])
            done += 1

    def go_back(self, state):
        """Finds the entrances of a state: the states ahead (None where both have one source), nodes and numbers."""
        at, one, other = self.parts_of(state)
        rows = []
        for ahead in self.aheads[at]:
            effect = self.field.effect_of(ahead)
            source, number = effect[one]
            other_source, other_number = effect[other]
            if source == other_source:
                rows.append((None, ahead, number - other_number))
            else:
                state_ahead = self.state_of(ahead, source, other_source)
                self.enter_state(state_ahead, state)
                rows.append((state_ahead, ahead, number - other_number))
        self.entrances[state] = rows

    def way_on(self, state):
        """The places from a state along the links, as a tuple."""
        states = []
        while state is not None:
            states.append(state)
            state = self.links[state]
        return self.places_of(states)

    def places_of(self, states):
        """The tuple of the places of states."""
        return tuple([self.graph.points[self.parts_of(state)[0]][0] for state in states])
