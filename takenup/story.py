"""What a control has done so far, moment by moment, so that it can be taken back and done again."""


class Moment:
    """How a control is behind an act. It never changes.

    The words hold while the control is broken, too, though nobody knows them then. A moment is pure if the control
    began with the first words, was never broken and never went over to another program.
    """

    def __init__(self, plan, place, stand, words, is_broken, is_pure):
        self.plan = plan
        self.place = place
        self.stand = stand
        self.words = words
        self.is_broken = is_broken
        self.is_pure = is_pure

    def behind(self, place, stand, words):
        """The moment behind a step."""
        return Moment(self.plan, place, stand, words, False, self.is_pure)

    def broken(self, stand, words, is_broken):
        """The moment behind a break, or behind a preamble that was done, whole or in part."""
        return Moment(self.plan, self.place, stand, words, is_broken, False)

    def gone_over(self, other):
        """The moment behind going over to another program."""
        return Moment(other, self.place, self.stand, self.words, False, False)


class Story:
    """The moments behind all acts, which one is now, and how many rows of the tape count at each.

    The moments behind the one that is now were taken back.
    """

    def __init__(self, moments, now, rows, places, counts):
        self.moments = moments
        self.now = now
        self.rows = rows
        self.places = places
        self.counts = counts

    def copied(self):
        """A story that goes on by itself."""
        return Story(list(self.moments), self.now, list(self.rows), list(self.places), list(self.counts))

    def moment(self):
        """The moment that is now."""
        return self.moments[self.now]

    def rows_done(self):
        """The rows that count now."""
        return self.rows[:self.counts[self.now]]

    def places_done(self):
        """The places of the rows that count now."""
        return self.places[:self.counts[self.now]]

    def take_in(self, moment, row):
        """Goes on to the moment behind a new act, with its row or None. What was taken back is gone."""
        del self.rows[self.counts[self.now]:]
        del self.places[self.counts[self.now]:]
        del self.moments[self.now + 1:]
        del self.counts[self.now + 1:]
        if row is not None:
            self.rows.append(row)
            self.places.append(row.place)
        self.moments.append(moment)
        self.counts.append(len(self.rows))
        self.now += 1

    def go_back(self):
        """Goes back to the moment ahead of the latest act, and tells whether there is one."""
        if self.now == 0:
            return False
        self.now -= 1
        return True

    def go_forth(self):
        """Goes on to the moment behind the act that was taken back last, and tells whether there is one."""
        if self.now + 1 == len(self.moments):
            return False
        self.now += 1
        return True
