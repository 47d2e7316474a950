"""Calls written as rows of text, and what they answer.

A row is a call, as `write 0 7`; behind a `=` stands what it must answer; ahead
of a `*` how often it's called. Where no `=` stands, any answer does that is no
refusal.
"""

from enoughasked.keepers import answers
from enoughasked.line import Line

NAMES = (
    "begin", "write", "read", "deliver", "lose", "again", "stop", "wake", "quit", "resend", "alone",
    "message", "machine", "customer", "op", "kept", "why", "order", "since", "now", "safe", "state",
)
ARGUMENTS = (5, 2, 1, 1, 1, 1, 1, 1, 1, 1, 1, 1, 1, 1, 1, 0, 0, 0, 0, 0, 0, 0)
CHANGES = range(1, 11)
MOST = 4294967295


def rows(text):
    """For each call of the text the row, the call's numbers, and what it must answer or None."""
    found = []
    for row in [row.strip() for row in text.splitlines() if row.strip()]:
        call, equals, due = row.partition("=")
        times, star, rest = call.partition("*")
        name, *given = (rest if star else times).split()
        numbers = [NAMES.index(name)] + [int(word) for word in given]
        expected = [int(word) for word in due.split()] if equals else None
        found += [(row, numbers, expected)] * (int(times) if star else 1)
    return found


def flat(text):
    return [number for row, numbers, due in rows(text) for number in numbers]


def apart(given_back):
    """What was given back as one list for each call."""
    found = []
    place = 0
    while place < len(given_back):
        behind = place + 1 + given_back[place]
        found.append(given_back[place + 1:behind])
        place = behind
    return found


def play(text):
    return apart(answers(flat(text)))


def check(case, text):
    """Call all rows on one new object: each must answer what it says."""
    called = rows(text)
    handed_in = flat(text)
    given_back = apart(answers(handed_in))
    case.assertEqual(handed_in, flat(text), "what is handed in was changed")
    case.assertEqual(len(given_back), len(called))
    for place, (row, numbers, due) in enumerate(called):
        where = f"call {place}: {row}"
        if due is None:
            case.assertGreaterEqual(given_back[place][0], 0, where)
        else:
            case.assertEqual(given_back[place], due, where)


def picture(thing):
    """All that an object holds, as it is now."""
    if isinstance(thing, (list, tuple)):
        return tuple(picture(part) for part in thing)
    if isinstance(thing, dict):
        return tuple((key, picture(part)) for key, part in thing.items())
    if hasattr(thing, "__dict__"):
        return (type(thing).__name__, picture(vars(thing)))
    return thing


def line_after(text):
    """The object on which all rows were called, for what no call of point 1 or 2 answers."""
    line = Line()
    for row, numbers, due in rows(text):
        line.answer(numbers[0], numbers[1:])
    return line


def under_way(text):
    """The messages under way behind the rows: kind, customer, machine, operation, tag, value."""
    return [
        (each.kind, each.customer, each.machine, each.op, each.tag, each.value)
        for each in line_after(text).store.under_way
    ]
