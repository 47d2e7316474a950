"""Whether there are moments for all, so that each reader was told what was written last."""

# Later than any time: the end of an open writing.
OPEN_END = 1000001

FOUND = 0
NOBODY_WRITES = 1
ENDED_AHEAD = 2
CLASH = 3


class Told:
    """An operation that was told, as it's known at some time."""

    def __init__(self, number, op, ended):
        self.number = number
        self.writing = op.writing
        self.value = op.value
        self.began = op.began
        self.ended = ended


class Value:
    """One of the values that there are, with the operations that count and are of it."""

    def __init__(self, value, ops):
        self.value = value
        self.ops = ops
        self.first_end = 0 if value == 0 else min([op.ended for op in ops])
        self.last_beginning = max([op.began for op in ops], default=0)


def told_by(ops, time):
    """What was told, as it's known at that time, in the order of their numbers."""
    told = []
    for number, op in enumerate(ops):
        if op.ended > 0 and op.ended <= time:
            told.append(Told(number, op, op.ended))
        elif op.writing and op.began <= time:
            told.append(Told(number, op, OPEN_END))
    return told


def readings_of(told):
    return [op for op in told if not op.writing]


def who_counts(told):
    read_of = [op.value for op in readings_of(told)]
    return [op for op in told if op.ended < OPEN_END or op.value in read_of]


def values_there_are(told):
    """The values that there are, the least first."""
    counting = who_counts(told)
    ops_of = {0: []}
    for op in counting:
        if op.writing:
            ops_of[op.value] = []
    for op in counting:
        if op.value in ops_of:
            ops_of[op.value].append(op)
    return [Value(value, ops_of[value]) for value in sorted(ops_of)]


def comes_ahead(value, other):
    """Whether the one must come ahead of the other, for something of it ended earlier."""
    return value.first_end < other.last_beginning


def first_clash(values):
    """The first two values that clash, the lesser one first, or None."""
    for place, lesser in enumerate(values):
        for greater in values[place + 1:]:
            if comes_ahead(lesser, greater) and comes_ahead(greater, lesser):
                return (lesser, greater)
    return None


def why_not(told):
    """0 if moments can be found, else the first of 1 to 3 that's so; then operations that show it."""
    writings = {}
    for op in told:
        if op.writing:
            writings[op.value] = op
    readings = [op for op in readings_of(told) if op.value != 0]
    for op in readings:
        if op.value not in writings:
            return [NOBODY_WRITES, op.number]
    for op in readings:
        writing = writings[op.value]
        if op.ended < writing.began:
            return [ENDED_AHEAD] + sorted([op.number, writing.number])
    clash = first_clash(values_there_are(told))
    if clash is None:
        return [FOUND]
    return [CLASH] + sorted(set(shown_of(clash[0]) + shown_of(clash[1])))


def shown_of(value):
    """The operations of a value that clashes which show that it does."""
    # Nothing ends at time 0, which is the first end of 0, so that 0 has none that ends then.
    ending = [op.number for op in value.ops if op.ended == value.first_end]
    beginning = [op.number for op in value.ops if op.began == value.last_beginning]
    writing = [op.number for op in value.ops if op.writing]
    return ending[:1] + beginning[:1] + writing


def can_be_found(told):
    return why_not(told)[0] == FOUND


def in_order(told):
    """The numbers of those that count in an order of their moments, where these can be found."""
    left = values_there_are(told)
    numbers = []
    while left:
        # There always is one, for no two clash.
        value = [each for each in left if may_be_next(each, left)][0]
        # Operations are numbered as they begin, so that the readings are in their order already.
        numbers.extend([op.number for op in value.ops if op.writing])
        numbers.extend([op.number for op in value.ops if not op.writing])
        left = [each for each in left if each.value != value.value]
    return numbers


def may_be_next(value, left):
    return not any([comes_ahead(other, value) for other in left if other.value != value.value])


def earliest_without(ops):
    """The earliest time at which moments can't be found by what's known then, or 0."""
    # Only an end can bring it about: what has only begun tells nobody anything yet.
    for time in sorted([op.ended for op in ops if op.ended > 0]):
        if not can_be_found(told_by(ops, time)):
            return time
    return 0
