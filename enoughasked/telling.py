"""The calls that only tell, message to state: none of them changes anything, the time neither."""

from enoughasked.moments import can_be_found, earliest_without, in_order, told_by, why_not
from enoughasked.refusals import NONE_SUCH, THERE_IS_NONE


def message_told(store, place):
    if place >= len(store.under_way):
        return [NONE_SUCH]
    message = store.under_way[place]
    return [
        message.kind, message.customer, message.machine, message.op,
        message.tag[0], message.tag[1], message.value,
    ]


def machine_told(store, number):
    if number >= len(store.machines):
        return [NONE_SUCH]
    machine = store.machines[number]
    return [1 if machine.up else 0, machine.tag[0], machine.tag[1], machine.value]


def customer_told(store, number):
    if number >= len(store.customers):
        return [NONE_SUCH]
    who = store.customers[number]
    return [who.how, who.op, len(who.counted), who.tag[0], who.tag[1], who.value]


def op_told(store, number):
    if number >= len(store.ops):
        return [NONE_SUCH]
    op = store.ops[number]
    return [1 if op.writing else 0, op.customer, op.value, op.began, op.ended]


def all_told(store):
    return told_by(store.ops, store.time)


def kept(store):
    return [1 if can_be_found(all_told(store)) else 0]


def why(store):
    return why_not(all_told(store))


def order(store):
    told = all_told(store)
    if not can_be_found(told):
        return [THERE_IS_NONE]
    numbers = in_order(told)
    return [len(numbers)] + numbers


def since(store):
    return [earliest_without(store.ops)]


def now(store):
    up = [machine for machine in store.machines if machine.up]
    values = []
    for machine in up:
        not_newer = [other for other in up if other.tag <= machine.tag]
        if len(not_newer) >= store.asked and machine.value not in values:
            values.append(machine.value)
    return [len(values)] + sorted(values)


def safe(store):
    return [1 if store.on == 1 and store.asked + store.told > len(store.machines) else 0]


def state(store):
    return [
        store.time, len(store.machines), store.asked, store.told, store.on,
        len(store.customers), len(store.under_way), len(store.ops),
    ]


WITH_ONE_NUMBER = {
    11: message_told,
    12: machine_told,
    13: customer_told,
    14: op_told,
}
WITH_NONE = {
    15: kept,
    16: why,
    17: order,
    18: since,
    19: now,
    20: safe,
    21: state,
}


def tell(store, number, given):
    """Answer the call of that number, one of 11 to 21."""
    if number in WITH_ONE_NUMBER:
        return WITH_ONE_NUMBER[number](store, given[0])
    return WITH_NONE[number](store)
