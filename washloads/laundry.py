"""A laundry's calls, read from one list of whole numbers, and what they answer."""

from washloads.house import House
from washloads.machine_calls import answer_machine_call
from washloads.order_calls import answer_order_call, is_order_call

# How many plain numbers each call has, and whether a row of numbers stands behind them.
FORMS = (
    (1, True),
    (1, False),
    (5, True),
    (1, False),
    (1, False),
    (2, False),
    (1, False),
    (2, False),
    (1, False),
    (1, False),
    (1, False),
    (1, False),
)


# Answers what the call that begins there is handed, its row as one list, and where it ends.
def read_call(calls, begin):
    plain, has_row = FORMS[calls[begin]]
    end = begin + 1 + plain
    numbers = calls[begin + 1:end]
    if not has_row:
        return numbers, end
    row_end = end + 1 + calls[end]
    return numbers + [calls[end + 1:row_end]], row_end


def answer(house, call, numbers):
    if is_order_call(call):
        return answer_order_call(house, call, numbers)
    return answer_machine_call(house, call, numbers)


def answers(calls):
    house = House()
    told = []
    begin = 0
    while begin < len(calls):
        numbers, end = read_call(calls, begin)
        found = answer(house, calls[begin], numbers)
        told.append(len(found))
        told.extend(found)
        begin = end
    return told
