"""The calls that begin anew, about orders, and about the whole: each is handed the house and its numbers."""

from washloads.house import CALLED_OFF, CLOSED, GIVEN_OUT, LAST_MINUTE, PACKED, STILL_OPEN, Order
from washloads.labels import read_label
from washloads.refusals import ALREADY, FULL, NO_LABEL, NO_LOAD, NOT_ALL_WASHED, NOT_THERE
from washloads.refusals import NOTHING_THERE, OUT_OF_RANGE, WRONG_STATE
from washloads.things import UNWASHED, WASHED, Thing, is_in_range, is_load

MOST_PRICE = 1000
MOST_MACHINES = 4
LEAST_DRUM = 1000
GREATEST_DRUM = 20000
MOST_ORDERS = 60
MOST_THINGS = 150


def are_drums(bears):
    if not 1 <= len(bears) <= MOST_MACHINES:
        return False
    return all([LEAST_DRUM <= grams <= GREATEST_DRUM for grams in bears])


def start(house, numbers):
    price, bears = numbers
    if price > MOST_PRICE or not are_drums(bears):
        return [OUT_OF_RANGE]
    house.begin(price, bears)
    return [0]


def order(house, numbers):
    due = numbers[0]
    if not house.now <= due <= LAST_MINUTE:
        return [OUT_OF_RANGE]
    if len(house.orders) == MOST_ORDERS:
        return [FULL]
    house.orders.append(Order(due))
    return [len(house.orders) - 1]


def state_refusal(house, o, states):
    if o >= len(house.orders):
        return NOT_THERE
    if house.orders[o].state not in states:
        return WRONG_STATE
    return 0


def thing_refusal(house, thing):
    if thing.label is None:
        return NO_LABEL
    if not is_in_range(thing):
        return OUT_OF_RANGE
    if not any([is_load([thing], machine.bears) for machine in house.machines]):
        return NO_LOAD
    if len(house.things) == MOST_THINGS:
        return FULL
    return 0


def add(house, numbers):
    o, need, colour, runs, weight, signs = numbers
    refusal = state_refusal(house, o, [STILL_OPEN])
    if refusal < 0:
        return [refusal]
    thing = Thing(o, read_label(signs), need, colour, runs, weight)
    refusal = thing_refusal(house, thing)
    if refusal < 0:
        return [refusal]
    house.things.append(thing)
    return [len(house.things) - 1]


def close(house, numbers):
    o = numbers[0]
    refusal = state_refusal(house, o, [STILL_OPEN])
    if refusal < 0:
        return [refusal]
    if len(house.things_of(o)) == 0:
        return [NOTHING_THERE]
    house.set_state(o, CLOSED)
    return [0]


def pack(house, numbers):
    o = numbers[0]
    refusal = state_refusal(house, o, [CLOSED])
    if refusal < 0:
        return [refusal]
    things = house.things_of(o)
    if any([thing.place != WASHED for thing in things]):
        return [NOT_ALL_WASHED]
    house.set_state(o, PACKED)
    return [len(things)]


def hand(house, numbers):
    o = numbers[0]
    refusal = state_refusal(house, o, [PACKED])
    if refusal < 0:
        return [refusal]
    house.set_state(o, GIVEN_OUT)
    paid = house.bill_of(o)
    house.till = house.till + paid
    return [paid]


def cancel(house, numbers):
    o = numbers[0]
    refusal = state_refusal(house, o, [STILL_OPEN, CLOSED])
    if refusal < 0:
        return [refusal]
    things = house.things_of(o)
    if any([thing.place != UNWASHED for thing in things]):
        return [ALREADY]
    house.set_state(o, CALLED_OFF)
    return [len(things)]


def bill(house, numbers):
    o = numbers[0]
    if o >= len(house.orders):
        return [NOT_THERE]
    return [house.bill_of(o)]


def tell_state(house, numbers):
    o = numbers[0]
    if o >= len(house.orders):
        return [NOT_THERE]
    found = house.orders[o]
    places = [house.place_of(thing) for thing in house.things_of(o)]
    return [found.state, found.due, len(places), places.count(WASHED)]


def is_late(found, now):
    return found.state not in (GIVEN_OUT, CALLED_OFF) and found.due < now


def tell_late(house, numbers):
    late = [o for o, found in enumerate(house.orders) if is_late(found, house.now)]
    return [len(late)] + late


def tell_till(house, numbers):
    return [house.till]


def tell_all(house, numbers):
    return [house.now, len(house.orders), len(house.things), len(house.waiting_things())]


ORDER_CALLS = {0: start, 1: order, 2: add, 3: close, 8: pack, 9: hand, 10: cancel, 11: bill,
               19: tell_state, 20: tell_late, 22: tell_till, 23: tell_all}


def is_order_call(call):
    return call in ORDER_CALLS


def answer_order_call(house, call, numbers):
    return ORDER_CALLS[call](house, numbers)
