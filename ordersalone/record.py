"""The object that a list of calls speaks to."""

from ordersalone.hearing import heard_table

MOST_CHANGES = 10


class Record:
    """How many events there are, which pairs are told, and how both were ahead of the last changes."""

    def __init__(self):
        self.size = 0
        self.told_pairs = []
        self.earlier = []

    def begun(self):
        return self.size > 0

    def has_event(self, i):
        return i < self.size

    def table(self):
        return heard_table(self.size, self.told_pairs)

    def start(self, size):
        self.size = size
        self.told_pairs = []
        self.earlier = []

    def change(self, size, told_pairs):
        # A list of pairs is replaced, never changed: the earlier ones are to stay as they were.
        self.earlier = (self.earlier + [(self.size, self.told_pairs)])[-MOST_CHANGES:]
        self.size = size
        self.told_pairs = told_pairs

    def take_back(self):
        last_one = self.earlier[-1]
        self.earlier = self.earlier[:-1]
        self.size = last_one[0]
        self.told_pairs = last_one[1]
