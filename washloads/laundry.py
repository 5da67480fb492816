"""A laundry's calls, read from one list of whole numbers, and what they answer."""

from washloads.house import House
from washloads.machine_calls import answer_machine_call, is_machine_call
from washloads.order_calls import answer_order_call, is_order_call
from washloads.thing_calls import answer_thing_call

# How many plain numbers each call has, in the order of the calls' numbers.
PLAIN_NUMBERS = (1, 1, 5, 1, 1, 2, 1, 2, 1, 1, 1, 1, 1, 1, 1, 0, 0, 1, 1, 1, 0, 0, 0, 0)
# The calls that have a row of numbers behind the plain ones.
CALLS_WITH_ROW = (0, 2, 15)


# Answers what the call that begins there is handed, its row as one list, and where it ends.
def read_call(calls, begin):
    call = calls[begin]
    end = begin + 1 + PLAIN_NUMBERS[call]
    numbers = calls[begin + 1:end]
    if call not in CALLS_WITH_ROW:
        return numbers, end
    row_end = end + 1 + calls[end]
    return numbers + [calls[end + 1:row_end]], row_end


def answer(house, call, numbers):
    if is_order_call(call):
        return answer_order_call(house, call, numbers)
    if is_machine_call(call):
        return answer_machine_call(house, call, numbers)
    return answer_thing_call(house, call, numbers)


def answers(calls):
    house = House()
    told = []
    begin = 0
    while begin < len(calls):
        numbers, end = read_call(calls, begin)
        found = answer(house, calls[begin], numbers)
        told.append(len(found))
        told.extend(found)
        begin = end
    return told
