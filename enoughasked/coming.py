"""How messages are sent, and what happens when one comes."""

from enoughasked.store import ANSWERED, ASKED, ASKING, HEARD, IDLE, TELLING, TOLD, Message

NOTHING = 0
SENT = 1
COUNTED = 2
TELLS = 3
ENDED = 4


def send_to_all(store, customer):
    """Send what a customer who's asking or telling asks or tells to all machines."""
    who = store.customers[customer]
    for machine in range(len(store.machines)):
        if who.how == TELLING:
            sent = Message(TOLD, customer, machine, who.op, who.tag, who.value)
        else:
            # Whatever they know by now, asking tells nothing of it.
            sent = Message(ASKED, customer, machine, who.op, (0, 0), 0)
        store.under_way.append(sent)


def come(store, place):
    """Let the message at that place of the row come, and tell what it did."""
    message = store.under_way.pop(place)
    if message.kind == ASKED or message.kind == TOLD:
        return come_to_machine(store, message)
    who = store.customers[message.customer]
    if not waits_for(who, message):
        return NOTHING
    who.counted.append(message.machine)
    if message.kind == ANSWERED:
        return count_answer(store, who, message)
    return count_heard(store, who)


def come_to_machine(store, message):
    machine = store.machines[message.machine]
    if not machine.up:
        return NOTHING
    if message.kind == ASKED:
        send_back(store, ANSWERED, message, machine.tag, machine.value)
        return SENT
    if message.tag > machine.tag:
        machine.tag = message.tag
        machine.value = message.value
    # The message's own tag and value go back, though the machine may keep a newer one.
    send_back(store, HEARD, message, message.tag, message.value)
    return SENT


def send_back(store, kind, message, tag, value):
    store.under_way.append(Message(kind, message.customer, message.machine, message.op, tag, value))


def waits_for(who, message):
    """Whether the message is one that this customer still has to count."""
    how = ASKING if message.kind == ANSWERED else TELLING
    return who.how == how and who.op == message.op and message.machine not in who.counted


def count_answer(store, who, message):
    if message.tag > who.tag:
        who.tag = message.tag
        who.value = message.value
    if len(who.counted) < store.asked:
        return COUNTED
    op = store.ops[who.op]
    if op.writing:
        who.tag = (who.tag[0] + 1, op.customer)
        who.value = op.value
    elif store.on == 0:
        return end_operation(store, who)
    who.how = TELLING
    who.counted = []
    send_to_all(store, op.customer)
    return TELLS


def count_heard(store, who):
    if len(who.counted) < store.told:
        return COUNTED
    return end_operation(store, who)


def end_operation(store, who):
    op = store.ops[who.op]
    op.ended = store.time
    if not op.writing:
        op.value = who.value
    who.how = IDLE
    who.forget()
    return ENDED
