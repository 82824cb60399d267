"""Reading the text of a program."""

from takenup.blocks import take_block
from takenup.cursor import Cursor
from takenup.items import TOLD_DEPTH, Counted, Group, Round, Skip, Told


class ProgramReader:
    """Reads the items of a program, and counts what has a bound as it goes."""

    def __init__(self, text, most_steps):
        self.cursor = Cursor(text)
        self.most_steps = most_steps
        self.steps_read = 0
        self.blocks_read = 0

    def read_program(self):
        """The items of the whole text."""
        items = self.read_row(0, 0)
        self.cursor.need_end()
        return items

    def read_row(self, depth, tolds):
        """Items up to a word that cannot go on with them, within so many groups and tolds."""
        items = [self.read_item(depth, tolds)]
        while self.cursor.take_if(";"):
            items.append(self.read_item(depth, tolds))
        return items

    def read_item(self, depth, tolds):
        """One item."""
        word = self.cursor.ahead()
        if word in ("skip", "round"):
            if depth == Group.DEPTH or tolds > 0:
                self.cursor.refuse()
            return self.read_chosen(depth)
        if word == "told":
            if depth == Group.DEPTH or tolds == TOLD_DEPTH:
                self.cursor.refuse()
            return self.read_told(depth, tolds)
        if tolds > 0:
            self.count_block()
        else:
            self.count_step()
        return take_block(self.cursor)

    def read_chosen(self, depth):
        """A skip or a round."""
        is_skip = self.cursor.take_if("skip")
        if not is_skip:
            self.cursor.need_word("round")
        items = self.read_members(depth + 1, 0)
        return Skip(*items) if is_skip else Round(*items)

    def read_told(self, depth, tolds):
        """A told."""
        if tolds == 0:
            self.count_step()
            self.blocks_read = 0
        self.cursor.need_word("told")
        count = self.cursor.take_within(1, Counted.MOST)
        items = self.read_members(depth + 1, tolds + 1)
        return Told(count, *items)

    def read_members(self, depth, tolds):
        """The items of a group, with the brackets around them."""
        self.cursor.need_word("(")
        items = self.read_row(depth, tolds)
        self.cursor.need_word(")")
        return items

    def count_step(self):
        """Counts a step, and refuses its first word if there are too many."""
        self.steps_read += 1
        if self.steps_read > self.most_steps:
            self.cursor.refuse()

    def count_block(self):
        """Counts a block of a told, and refuses its first word if there are too many."""
        self.blocks_read += 1
        if self.blocks_read > Told.BLOCKS:
            self.cursor.refuse()
