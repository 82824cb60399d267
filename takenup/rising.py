"""How great the differences of a closure can be, or a ring on which they rise without end."""


class Heights:
    """The greatest number of each state of a closure, none of which is free, and where it comes from.

    If the numbers rise without end, ring is the list of the states of a ring that adds a number above 0, the first
    one once more at its end; otherwise it is None.
    """

    def __init__(self, closure):
        self.heights = {}
        self.origins = {}
        self.ring = None
        self.leads = {state: [] for state in closure.order}
        self.queue = []
        self.is_waiting = {}
        self.raised = 0
        for state in closure.order:
            for ahead, point, number in closure.entrances[state]:
                if ahead is None:
                    self.lift(state, number, None, point)
                else:
                    self.leads[ahead].append((state, number, point))
        self.follow(len(closure.order))

    def lift(self, state, number, ahead, point):
        """Some way brings a number to a state, from the state ahead, or from a node where both have one source."""
        if state in self.heights and number <= self.heights[state]:
            return
        self.heights[state] = number
        self.origins[state] = (ahead, point)
        self.raised += 1
        if not self.is_waiting.get(state, False):
            self.is_waiting[state] = True
            self.queue.append(state)

    def follow(self, many):
        """Follows all ways until no number rises any more, or a ring is found.

        A ring shows itself among the origins soon after all of its states were raised, so one look after as many
        raises as there are states costs little.
        """
        done, looked = 0, 0
        while done < len(self.queue) and self.ring is None:
            state = self.queue[done]
            done += 1
            self.is_waiting[state] = False
            for after, number, point in self.leads[state]:
                self.lift(after, self.heights[state] + number, state, point)
            if self.raised - looked > many:
                looked = self.raised
                self.ring = ring_among(self.origins)

    def states_to(self, state):
        """The states along which the number of a state came about, and the node ahead of the first one."""
        states = [state]
        ahead, point = self.origins[state]
        while ahead is not None:
            states.append(ahead)
            ahead, point = self.origins[ahead]
        return states[::-1], point


def ring_among(origins):
    """The list of the states of a ring, in the order in which they are gone through; None if there is none."""
    seen = {}
    for start in origins:
        state = start
        while state is not None and state not in seen:
            seen[state] = start
            state = origins[state][0]
        if state is not None and seen[state] == start:
            ring = [state, origins[state][0]]
            while ring[-1] != state:
                ring.append(origins[ring[-1]][0])
            return ring[::-1]
    return None
