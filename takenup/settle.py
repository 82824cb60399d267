"""What holds at points on all ways that lead there."""

from takenup.ties import common_ties, ties_behind


def settled(field, begins):
    """For the points that are reached from some begins, the ties that hold on all ways; None if some are refused.

    A begin is a point and the ties with which it begins. A field has the graph of the points, the effect of the step
    of each, and tells whether ties at a point are refused. If they are, so are all weaker ones: it is asked each time.
    """
    settling = Settling(field)
    for at, ties in begins:
        settling.bring(at, ties)
    return settling.ties if settling.settle() else None


class Settling:
    """The ties that hold on the ways that were followed so far, and the points from which to follow on."""

    def __init__(self, field):
        self.field = field
        self.ties = {}
        self.queue = []
        self.is_waiting = {}

    def bring(self, at, ties):
        """Some way brings ties to a point."""
        held = self.ties.get(at)
        if held == ties:
            return
        common = ties if held is None else common_ties(held, ties)
        if common == held:
            return
        self.ties[at] = common
        if not self.is_waiting.get(at, False):
            self.is_waiting[at] = True
            self.queue.append(at)

    def settle(self):
        """Follows all ways until nothing changes; whether nothing was refused."""
        done = 0
        while done < len(self.queue):
            at = self.queue[done]
            done += 1
            self.is_waiting[at] = False
            if self.field.is_refused(at, self.ties[at]):
                return False
            self.go_on(at)
        return True

    def go_on(self, at):
        """Brings what holds behind the step of a point to the points that can follow it."""
        follow = self.field.graph.followers_of(at)
        if len(follow) == 0:
            return
        behind = ties_behind(self.ties[at], self.field.effect_of(at))
        for after in follow:
            self.bring(after, behind)
