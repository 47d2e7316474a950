"""Calls written as rows of text, and what they answer.

A row is a call, as `write 0 7`; behind a `=` stands what it must answer; ahead
of a `*` how often it's called. Where no `=` stands, any answer does that is no
refusal.
"""

from enoughasked.keepers import answers
from enoughasked.line import Line

NAMES = (
    "begin", "write", "read", "deliver", "lose", "again", "stop", "wake", "quit", "resend", "alone",
    "message", "machine", "customer", "op", "kept", "why", "order", "since", "now", "safe", "state",
)
ARGUMENTS = (5, 2, 1, 1, 1, 1, 1, 1, 1, 1, 1, 1, 1, 1, 1, 0, 0, 0, 0, 0, 0, 0)
CHANGES = range(1, 11)
TELLS = range(11, 22)
MOST = 4294967295


def rows(text):
    """For each call of the text the row, the call's numbers, and what it must answer or None."""
    found = []
    for row in [row.strip() for row in text.splitlines() if row.strip()]:
        call, equals, due = row.partition("=")
        times, star, rest = call.partition("*")
        name, *given = (rest if star else times).split()
        numbers = [NAMES.index(name)] + [int(word) for word in given]
        expected = [int(word) for word in due.split()] if equals else None
        found += [(row, numbers, expected)] * (int(times) if star else 1)
    return found


def flat(text):
    return [number for row, numbers, due in rows(text) for number in numbers]


def apart(given_back):
    """What was given back as one list for each call."""
    found = []
    place = 0
    while place < len(given_back):
        behind = place + 1 + given_back[place]
        found.append(given_back[place + 1:behind])
        place = behind
    return found


def play(text):
    return apart(answers(flat(text)))


def check(case, text):
    """Call all rows on one new object: each must answer what it says."""
    called = rows(text)
    handed_in = flat(text)
    given_back = apart(answers(handed_in))
    case.assertEqual(handed_in, flat(text), "what is handed in was changed")
    case.assertEqual(len(given_back), len(called))
    for place, (row, numbers, due) in enumerate(called):
        where = f"call {place}: {row}"
        if due is None:
            case.assertGreaterEqual(given_back[place][0], 0, where)
        else:
            case.assertEqual(given_back[place], due, where)


def picture(thing):
    """All that an object holds, as it is now."""
    if isinstance(thing, (list, tuple)):
        return tuple(picture(part) for part in thing)
    if isinstance(thing, dict):
        return tuple((key, picture(part)) for key, part in thing.items())
    if hasattr(thing, "__dict__"):
        return (type(thing).__name__, picture(vars(thing)))
    return thing


class Talk:
    """Calls made on one object one by one, each chosen by what it tells so far."""

    def __init__(self, *begin):
        self.line = Line()
        self.called = []
        self.answered = []
        self.call("begin", *begin)

    def call(self, name, *given):
        """Make a call that belongs to the line of calls."""
        answered = self.ask(name, *given)
        self.called += [NAMES.index(name), *given]
        self.answered.append(answered)
        return answered

    def ask(self, name, *given):
        """Make a call that's left out of the line, for it changes nothing: one that tells, or is refused."""
        return self.line.answer(NAMES.index(name), list(given))

    def row(self):
        return [self.ask("message", place) for place in range(self.ask("state")[6])]

    def ops(self):
        return [self.ask("op", number) for number in range(self.ask("state")[7])]

    def come(self, kind, customer, machine):
        """Deliver the last message under way of that kind, between those two."""
        found = [place for place, told in enumerate(self.row()) if told[:3] == [kind, customer, machine]]
        return self.call("deliver", found[-1])

    def asks(self, customer, machines):
        """Only these machines answer what that customer has just asked; the answer to the last."""
        for machine in machines:
            self.come(0, customer, machine)
        return [self.come(1, customer, machine) for machine in machines][-1]

    def tells(self, customer, machines):
        """Only these machines hear what that customer has just told; the answer to the last."""
        for machine in machines:
            self.come(2, customer, machine)
        return [self.come(3, customer, machine) for machine in machines][-1]

    def as_one_line(self, case):
        """All calls handed in at once are answered as they were one by one."""
        case.assertEqual(apart(answers(list(self.called))), self.answered)


def line_after(text):
    """The object on which all rows were called, for what is tested behind the calls."""
    line = Line()
    for row, numbers, due in rows(text):
        line.answer(numbers[0], numbers[1:])
    return line


def under_way(text):
    """The messages under way behind the rows: kind, customer, machine, operation, tag, value."""
    return [
        (each.kind, each.customer, each.machine, each.op, each.tag, each.value)
        for each in line_after(text).store.under_way
    ]
