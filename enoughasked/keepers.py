"""The calls of one line, answered in order."""

from enoughasked.line import Line

# How many whole numbers stand behind each call's number: begin, write, read to op, kept to state.
HOW_MANY = (5, 2, 1, 1, 1, 1, 1, 1, 1, 1, 1, 1, 1, 1, 1, 0, 0, 0, 0, 0, 0, 0)


def answers(calls):
    """For each call how many numbers it answers, then these."""
    line = Line()
    given_back = []
    place = 0
    while place < len(calls):
        number = calls[place]
        behind = place + 1 + HOW_MANY[number]
        answered = line.answer(number, calls[place + 1:behind])
        given_back.append(len(answered))
        given_back.extend(answered)
        place = behind
    return given_back
