"""The calls about machines, and about time: each is handed the house and its numbers."""

from washloads.house import LAST_MINUTE
from washloads.refusals import ALREADY, IS_BROKEN, NOT_THERE, NOTHING_THERE, OUT_OF_RANGE, WRONG_STATE
from washloads.things import UNWASHED, mildest_program, minutes_of

# What a machine does.
IS_EMPTY = 0
IS_RUNNING = 1
IS_OUT = 2


def plan(house, numbers):
    k = numbers[0]
    if k >= len(house.machines):
        return [NOT_THERE]
    machine = house.machines[k]
    waiting = house.waiting_for(machine)
    if len(waiting) == 0:
        return [NOTHING_THERE]
    way = house.plan_of(waiting, machine)
    answer = [max(way) + 1, len(way)]
    for i, load in zip(waiting, way):
        answer.extend([i, load])
    return answer


def run_refusal(house, k):
    if k >= len(house.machines):
        return NOT_THERE
    machine = house.machines[k]
    if machine.broken == 1:
        return IS_BROKEN
    if machine.is_running():
        return WRONG_STATE
    if len(house.waiting_for(machine)) == 0:
        return NOTHING_THERE
    return 0


def run(house, numbers):
    k, j = numbers
    refusal = run_refusal(house, k)
    if refusal < 0:
        return [refusal]
    machine = house.machines[k]
    waiting = house.waiting_for(machine)
    way = house.plan_of(waiting, machine)
    chosen = [i for i, load in zip(waiting, way) if load == j]
    if len(chosen) == 0:
        return [OUT_OF_RANGE]
    program = mildest_program([house.things[i] for i in chosen])
    minutes = minutes_of(program)
    house.fill(machine, chosen, program, house.now + minutes)
    return [minutes] + list(program)


def tick(house, numbers):
    t = numbers[0]
    if not house.now <= t <= LAST_MINUTE:
        return [OUT_OF_RANGE]
    house.now = t
    return [house.wash_what_is_over()]


def broken(house, numbers):
    k, on = numbers
    if k >= len(house.machines):
        return [NOT_THERE]
    if on > 1:
        return [OUT_OF_RANGE]
    machine = house.machines[k]
    if machine.broken == on:
        return [ALREADY]
    machine.broken = on
    return [house.take_out(machine, UNWASHED)]


def tell_machine(house, numbers):
    k = numbers[0]
    if k >= len(house.machines):
        return [NOT_THERE]
    machine = house.machines[k]
    if machine.broken == 1:
        return [IS_OUT]
    if not machine.is_running():
        return [IS_EMPTY]
    return [IS_RUNNING, machine.until] + list(machine.program)


def tell_inside(house, numbers):
    k = numbers[0]
    if k >= len(house.machines):
        return [NOT_THERE]
    inside = house.machines[k].inside
    return [len(inside)] + inside


def tell_next(house, numbers):
    moments = [machine.until for machine in house.machines if machine.is_running()]
    if len(moments) == 0:
        return [NOTHING_THERE]
    return [min(moments)]


MACHINE_CALLS = {4: plan, 5: run, 6: tick, 7: broken, 17: tell_machine, 18: tell_inside, 21: tell_next}


def is_machine_call(call):
    return call in MACHINE_CALLS


def answer_machine_call(house, call, numbers):
    return MACHINE_CALLS[call](house, numbers)
