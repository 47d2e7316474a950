"""What is kept: machines, customers, operations and messages under way.

A tag is a tuple of its number and its customer's number, so that the newer of
two tags is the greater of two tuples.
"""

IDLE = 0
ASKING = 1
TELLING = 2
LEFT = 3

ASKED = 0
ANSWERED = 1
TOLD = 2
HEARD = 3


class Machine:
    def __init__(self):
        self.up = True
        self.tag = (0, 0)
        self.value = 0


class Customer:
    def __init__(self):
        self.how = IDLE
        self.op = 0
        self.forget()

    def forget(self):
        # The machines that have answered while asking, or heard while telling.
        self.counted = []
        self.tag = (0, 0)
        self.value = 0


class Operation:
    def __init__(self, writing, customer, value, began):
        self.writing = writing
        self.customer = customer
        self.value = value
        self.began = began
        self.ended = 0


class Message:
    """Never changed once it's sent: the same one may stand in the row twice."""

    def __init__(self, kind, customer, machine, op, tag, value):
        self.kind = kind
        self.customer = customer
        self.machine = machine
        self.op = op
        self.tag = tag
        self.value = value


class Store:
    def __init__(self, machines, customers, asked, told, on):
        self.time = 0
        self.machines = [Machine() for place in range(machines)]
        self.customers = [Customer() for place in range(customers)]
        self.asked = asked
        self.told = told
        self.on = on
        self.under_way = []
        self.ops = []
