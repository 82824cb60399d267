"""What all runs on want at each pair node, gone back step by step."""


class Asking:
    """The wants of all runs on at the pair nodes of a field, all of whose points are explored.

    At each point up to two numbers are kept for each pair, with where they come from: the want of the step there, or
    that of a pair of a point that can follow. A third number would tell nothing: two are never both met.
    """

    def __init__(self, field):
        self.field = field
        self.graph = field.graph
        self.asked = [{} for _ in field.graph.points]
        self.queue = []
        self.parts, self.parts_behind = field.graph.joins()
        self.asked_behind = [{} for _ in self.parts]
        for at in range(len(field.graph.points)):
            for want in field.wants_of(at):
                self.ask(at, want[:2], want[2], want, None)
        self.go_back()

    def ask(self, at, pair, number, want, origin):
        """A pair is asked for a number at a point."""
        rows = self.asked[at].setdefault(pair, [])
        if len(rows) == 0 or len(rows) == 1 and rows[0][0] != number:
            rows.append((number, want, origin))
            self.queue.append((at, pair, len(rows) - 1))

    def go_back(self):
        """Pulls each want back to the points ahead."""
        done = 0
        while done < len(self.queue):
            at, pair, index = self.queue[done]
            number = self.asked[at][pair][index][0]
            for part in self.parts_behind[at]:
                self.ask_behind(part, pair, number, self.queue[done])
            done += 1

    def ask_behind(self, part, pair, number, origin):
        """A pair is asked for a number behind the steps of all points of a part."""
        numbers = self.asked_behind[part].setdefault(pair, [])
        if len(numbers) == 2 or number in numbers:
            return
        numbers.append(number)
        many = self.field.many
        for at in self.parts[part]:
            effect = self.field.effect_of(at)
            source, added = effect[pair[0]]
            other, other_added = effect[many + pair[1]]
            self.ask(at, (source, other - many), number + other_added - added, None, origin)

    def rows_at(self, at):
        """The list of the wants at a point, each as its pair, its number and the key by which its spot is found."""
        asked = self.asked[at]
        return [(pair, row[0], (at, pair, index)) for pair in asked for index, row in enumerate(asked[pair])]

    def rows_in_order(self, at):
        """The same, by the registers of the pairs."""
        many = self.field.many
        codes = sorted([int(one * many + other) for one, other in self.asked[at]])
        pairs = [(code // many, code % many) for code in codes]
        return [(pair, row[0], (at, pair, index)) for pair in pairs for index, row in enumerate(self.asked[at][pair])]

    def spot_of(self, key):
        """The run on, inside and what of a want."""
        places = []
        while key is not None:
            at, pair, index = key
            places.append(self.graph.points[at][0])
            _, want, key = self.asked[at][pair][index]
        places.append(self.graph.plan.after(places[-1])[0])
        return tuple(places), want[3], want[4]
