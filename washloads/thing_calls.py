"""The calls that ask about things: each is handed the house and its numbers."""

from washloads.labels import signs_of
from washloads.refusals import NONE_APART, NOT_THERE, OUT_OF_RANGE
from washloads.things import go_together

MOST_APART = 20


def tell_where(house, numbers):
    i = numbers[0]
    if i >= len(house.things):
        return [NOT_THERE]
    thing = house.things[i]
    return [house.place_of(thing), thing.order]


def tell_label(house, numbers):
    i = numbers[0]
    if i >= len(house.things):
        return [NOT_THERE]
    signs = signs_of(house.things[i].label)
    return [len(signs)] + signs


def tell_thing(house, numbers):
    i = numbers[0]
    if i >= len(house.things):
        return [NOT_THERE]
    thing = house.things[i]
    return [thing.weight, thing.need, thing.colour, thing.runs]


def are_apart(house, i, j):
    return not go_together([house.things[i], house.things[j]])


# Two by two is enough: where each two go together all do, as in a load.
def tell_apart(house, numbers):
    chosen = numbers[0]
    if not 1 <= len(chosen) <= MOST_APART or max(chosen) >= len(house.things):
        return [OUT_OF_RANGE]
    for place, i in enumerate(chosen):
        # From the very place on: a thing may not even go with itself.
        apart = [j for j in chosen[place:] if are_apart(house, i, j)]
        if len(apart) > 0:
            return [i, apart[0]]
    return [NONE_APART]


def tell_waiting(house, numbers):
    waiting = house.waiting_things()
    return [len(waiting)] + waiting


THING_CALLS = {12: tell_where, 13: tell_label, 14: tell_thing, 15: tell_apart, 16: tell_waiting}


def answer_thing_call(house, call, numbers):
    return THING_CALLS[call](house, numbers)
