"""One object: what is begun on it, and how each call on it is answered."""

from enoughasked.changes import change
from enoughasked.refusals import NOT_AS_TOLD, NOT_BEGUN
from enoughasked.store import Store
from enoughasked.telling import tell

BEGIN = 0
LAST_CHANGE = 10
MOST_MACHINES = 5
MOST_CUSTOMERS = 4


class Line:
    def __init__(self):
        # There is none before the first begin that isn't refused.
        self.store = None

    def answer(self, number, given):
        """The numbers that the call of that number answers."""
        if number == BEGIN:
            return self.begin(given[0], given[1], given[2], given[3], given[4])
        if self.store is None:
            return [NOT_BEGUN]
        if number > LAST_CHANGE:
            return tell(self.store, number, given)
        return change(self.store, number, given)

    def begin(self, machines, customers, asked, told, on):
        if machines < 1 or machines > MOST_MACHINES:
            return [NOT_AS_TOLD]
        if customers < 1 or customers > MOST_CUSTOMERS:
            return [NOT_AS_TOLD]
        if asked < 1 or asked > machines or told < 1 or told > machines or on > 1:
            return [NOT_AS_TOLD]
        self.store = Store(machines, customers, asked, told, on)
        return [0]
