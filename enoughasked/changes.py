"""The calls that change something, write to alone.

Each looks for its refusals in the order that the document tells them, and
takes its time only when none is due, so that a refused call changes nothing.
"""

from enoughasked.coming import ENDED, come, send_to_all
from enoughasked.refusals import ALREADY, NONE_SUCH, NOT_AS_TOLD, TOO_MANY, WRITTEN
from enoughasked.store import ASKING, IDLE, LEFT, TELLING, Operation

MOST_VALUE = 40
MOST_OPERATIONS = 20
MOST_UNDER_WAY = 60
MOST_ALONE = 400


def write(store, customer, value):
    if customer >= len(store.customers):
        return [NONE_SUCH]
    if value < 1 or value > MOST_VALUE:
        return [NOT_AS_TOLD]
    if store.customers[customer].how != IDLE:
        return [ALREADY]
    if is_written(store, value):
        return [WRITTEN]
    if is_full(store):
        return [TOO_MANY]
    return [begin_operation(store, True, customer, value)]


def read(store, customer):
    if customer >= len(store.customers):
        return [NONE_SUCH]
    if store.customers[customer].how != IDLE:
        return [ALREADY]
    if is_full(store):
        return [TOO_MANY]
    return [begin_operation(store, False, customer, 0)]


def is_written(store, value):
    return any([op.writing and op.value == value for op in store.ops])


def is_full(store):
    return len(store.ops) >= MOST_OPERATIONS or has_no_room(store)


def has_no_room(store):
    """Whether sending to all machines would put too many under way."""
    return len(store.under_way) + len(store.machines) > MOST_UNDER_WAY


def begin_operation(store, writing, customer, value):
    store.time += 1
    number = len(store.ops)
    store.ops.append(Operation(writing, customer, value, store.time))
    who = store.customers[customer]
    who.how = ASKING
    who.op = number
    send_to_all(store, customer)
    return number


def deliver(store, message):
    if message >= len(store.under_way):
        return [NONE_SUCH]
    store.time += 1
    number = store.under_way[message].op
    did = come(store, message)
    if did == ENDED:
        return [did, number, store.ops[number].value]
    return [did]


def lose(store, message):
    if message >= len(store.under_way):
        return [NONE_SUCH]
    store.time += 1
    store.under_way.pop(message)
    return [len(store.under_way)]


def again(store, message):
    if message >= len(store.under_way):
        return [NONE_SUCH]
    if len(store.under_way) >= MOST_UNDER_WAY:
        return [TOO_MANY]
    store.time += 1
    store.under_way.append(store.under_way[message])
    return [len(store.under_way)]


def stop(store, machine):
    return turn(store, machine, False)


def wake(store, machine):
    return turn(store, machine, True)


def turn(store, machine, up):
    if machine >= len(store.machines):
        return [NONE_SUCH]
    which = store.machines[machine]
    if which.up == up:
        return [ALREADY]
    store.time += 1
    which.up = up
    return [0]


def leave(store, customer):
    if customer >= len(store.customers):
        return [NONE_SUCH]
    who = store.customers[customer]
    if who.how == LEFT:
        return [ALREADY]
    store.time += 1
    # What they were at stays as it was, for it is still told of one who has left.
    who.how = LEFT
    return [0]


def resend(store, customer):
    if customer >= len(store.customers):
        return [NONE_SUCH]
    if not is_at_work(store, customer):
        return [ALREADY]
    if has_no_room(store):
        return [TOO_MANY]
    store.time += 1
    send_to_all(store, customer)
    return [len(store.under_way)]


def alone(store, customer):
    if customer >= len(store.customers):
        return [NONE_SUCH]
    if not is_at_work(store, customer):
        return [ALREADY]
    store.time += 1
    number = store.customers[customer].op
    came = 0
    while came < MOST_ALONE:
        place = first_of(store, number)
        if place is None:
            break
        came += 1
        if come(store, place) == ENDED:
            return [came, 1]
    return [came, 0]


def is_at_work(store, customer):
    how = store.customers[customer].how
    return how == ASKING or how == TELLING


def first_of(store, number):
    """The place of the first message under way of that operation, or None."""
    for place, message in enumerate(store.under_way):
        if message.op == number:
            return place
    return None


WRITE = 1
WITH_ONE_NUMBER = {
    2: read,
    3: deliver,
    4: lose,
    5: again,
    6: stop,
    7: wake,
    8: leave,
    9: resend,
    10: alone,
}


def change(store, number, given):
    """Answer the call of that number, one of 1 to 10."""
    if number == WRITE:
        return write(store, given[0], given[1])
    return WITH_ONE_NUMBER[number](store, given[0])
