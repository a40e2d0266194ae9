"""What is kept from call to call: the coins, and how they were ahead of the last changes."""

from madecoins.refusals import TOO_MANY_COINS

MOST_COINS = 8
MOST_BACK = 10


class Holder:
    """Rows, and lists of rows, are never changed once they are kept: a change puts a new list."""

    def __init__(self):
        self.begun = False
        self.rows = []
        self.past = []

    def begin(self):
        self.begun = True
        self.rows = []
        self.past = []

    def has(self, i):
        return i < len(self.rows)

    def change(self, rows):
        self.past = (self.past + [self.rows])[-MOST_BACK:]
        self.rows = rows

    def add(self, row):
        """The new coin's number, or the refusal that comes last wherever a coin is added."""
        if len(self.rows) == MOST_COINS:
            return TOO_MANY_COINS
        self.change(self.rows + [row])
        return len(self.rows) - 1

    def drop(self, i):
        self.change(self.rows[:i] + self.rows[i + 1:])
        return len(self.rows)

    def changes(self):
        return len(self.past)

    def back(self):
        """Takes back the last change, which is there; how many can still be."""
        self.rows = self.past[-1]
        self.past = self.past[:-1]
        return self.changes()
