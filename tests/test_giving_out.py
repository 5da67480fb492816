"""Promise 5: pack, hand, cancel, bill."""

from lines import MOST, LineCase, add, bill, broken, cancel, close, hand, last, order, pack, plan, planned, run
from lines import start, tick, told

from washloads.house import House
from washloads.laundry import answer, read_call

LOOKS = (bill(0), bill(1), plan(0), plan(1), run(1, 0), tick(64), tick(65), tick(200), broken(0, 1), plan(0), pack(0),
         hand(0), add(0), close(0), plan(0), cancel(0), order())

OPEN = (start(10, [5000, 5000]), order(), add(0), add(0, w=250))
CLOSED = (*OPEN, close(0))
RUNNING = (*CLOSED, run(0, 0))
WASHED = (*RUNNING, tick(65))
PACKED = (*WASHED, pack(0))
GIVEN_OUT = (*PACKED, hand(0))
CALLED_OFF = (*CLOSED, cancel(0))
NONE = (start(10, [5000, 5000]),)


class Pack(LineCase):
    def test_how_many_things(self):
        self.assertEqual(last(*PACKED), [2])
        many = [add(0, w=1)] * 20
        begin = (start(), order(), *many, close(0), run(0, 0), tick(65), run(0, 0), tick(130), run(0, 0))
        self.assertEqual(told(*begin, tick(194), pack(0), tick(195), pack(0))[-4:], [[0], [-61], [4], [20]])

    def test_no_such_order(self):
        self.refuses(WASHED, pack(1), -2, LOOKS)
        self.refuses(WASHED, pack(MOST), -2, LOOKS)
        self.refuses(NONE, pack(0), -2, LOOKS)

    def test_not_closed(self):
        for before in (OPEN, PACKED, GIVEN_OUT, CALLED_OFF, (*NONE, order())):
            self.refuses(before, pack(0), -16, LOOKS)

    def test_not_all_washed(self):
        self.refuses(CLOSED, pack(0), -61, LOOKS)
        self.refuses(RUNNING, pack(0), -61, LOOKS)
        self.refuses((*RUNNING, tick(64)), pack(0), -61, LOOKS)
        self.refuses((*RUNNING, broken(0, 1)), pack(0), -61, LOOKS)

    def test_some_of_it_washed_is_not_enough(self):
        begin = (start(), order(), add(0, w=3000), add(0, w=3000), add(0, w=3000), close(0))
        for first in range(2):
            some = (*begin, run(0, first), tick(65))
            self.refuses(some, pack(0), -61, LOOKS)
            self.refuses((*some, run(0, first)), pack(0), -61, LOOKS)
            self.refuses((*some, run(0, first), tick(130)), pack(0), -61, LOOKS)

    def test_another_order_says_nothing_of_it(self):
        begin = (start(), order(), order(), add(0, w=3000), add(1, w=3000), close(0), close(1), run(0, 1), tick(65))
        self.assertEqual(told(*begin, pack(0), pack(1))[-2:], [[-61], [1]])


class Hand(LineCase):
    def test_its_bill(self):
        self.assertEqual(last(*GIVEN_OUT), [130])

    def test_no_such_order(self):
        self.refuses(PACKED, hand(1), -2, LOOKS)
        self.refuses(PACKED, hand(MOST), -2, LOOKS)
        self.refuses(NONE, hand(0), -2, LOOKS)

    def test_not_packed(self):
        for before in (OPEN, CLOSED, RUNNING, WASHED, GIVEN_OUT, CALLED_OFF, (*NONE, order())):
            self.refuses(before, hand(0), -16, LOOKS)

    def test_given_out_late(self):
        begin = (start(), order(5), add(0), close(0), run(0, 0), tick(65), pack(0), tick(1000000))
        self.assertEqual(last(*begin, hand(0)), [100])

    def test_for_nothing(self):
        self.assertEqual(last(start(0), order(), add(0), close(0), run(0, 0), tick(65), pack(0), hand(0)), [0])

    def test_each_order_for_itself(self):
        begin = (start(), order(), order(), add(0), add(1, w=2000), close(0), close(1), run(0, 0), tick(65),
                 pack(0), pack(1))
        self.assertEqual(told(*begin, hand(1), hand(1), hand(0), hand(0))[-4:], [[200], [-16], [100], [-16]])


class Cancel(LineCase):
    def test_how_many_things_it_had(self):
        self.assertEqual(last(*NONE, order(), cancel(0)), [0])
        self.assertEqual(last(*OPEN, cancel(0)), [2])
        self.assertEqual(last(*CLOSED, cancel(0)), [2])

    def test_no_such_order(self):
        self.refuses(CLOSED, cancel(1), -2, LOOKS)
        self.refuses(CLOSED, cancel(MOST), -2, LOOKS)
        self.refuses(NONE, cancel(0), -2, LOOKS)

    def test_packed_given_out_or_called_off(self):
        for before in (PACKED, GIVEN_OUT, CALLED_OFF, (*OPEN, cancel(0)), (*NONE, order(), cancel(0))):
            self.refuses(before, cancel(0), -16, LOOKS)

    def test_some_of_it_in_a_machine_or_washed(self):
        self.refuses(RUNNING, cancel(0), -17, LOOKS)
        self.refuses(WASHED, cancel(0), -17, LOOKS)
        begin = (start(), order(), add(0, w=3000), add(0, w=3000), add(0, w=3000), close(0))
        for first in range(3):
            self.refuses((*begin, run(0, first)), cancel(0), -17, LOOKS)
            self.refuses((*begin, run(0, first), tick(65)), cancel(0), -17, LOOKS)

    def test_another_order_says_nothing_of_it(self):
        begin = (start(), order(), order(), add(0, w=3000), add(1, w=3000), close(0), close(1), run(0, 0))
        self.assertEqual(told(*begin, cancel(0), cancel(1))[-2:], [[-17], [1]])

    def test_called_off_before_it_is_washed(self):
        begin = (*CLOSED, order(), add(1), close(1))
        self.assertEqual(last(*begin, plan(0)), planned(1, (0, 0), (1, 0), (2, 0)))
        self.assertEqual(last(*begin, cancel(0), plan(0)), planned(1, (2, 0)))
        self.assertEqual(told(*begin, cancel(0), run(0, 0), tick(65), pack(0), hand(0), pack(1))[-5:],
                         [[65, 30, 0, 2, 2], [1], [-16], [-16], [1]])

    def test_numbers_go_on_behind_it(self):
        self.assertEqual(told(*CALLED_OFF, order(), add(1))[-2:], [[1], [2]])


class Bill(LineCase):
    def test_begun_hundreds(self):
        for w, hundreds in ((1, 1), (99, 1), (100, 1), (101, 2), (199, 2), (200, 2), (5000, 50)):
            self.assertEqual(last(start(7), order(), add(0, w=w), bill(0)), [7 * hundreds], w)

    def test_of_all_together_not_of_each(self):
        for weights, hundreds in (((50, 50), 1), ((50, 51), 2), ((101, 99), 2), ((1,) * 100, 1), ((110,) * 10, 11)):
            self.assertEqual(last(start(7), order(), *[add(0, w=w) for w in weights], bill(0)), [7 * hundreds])

    def test_of_nothing(self):
        self.assertEqual(last(start(1000), order(), bill(0)), [0])

    def test_of_the_order_alone(self):
        begin = (start(3), order(), order(), add(1, w=1000), add(0, w=500), add(1, w=1))
        self.assertEqual(told(*begin, bill(0), bill(1))[-2:], [[15], [33]])

    def test_whatever_state_it_is_in(self):
        for before in (OPEN, CLOSED, RUNNING, WASHED, PACKED, GIVEN_OUT, CALLED_OFF):
            self.assertEqual(last(*before, bill(0)), [130])

    def test_the_greatest(self):
        begin = (start(1000, [20000]), order(), *[add(0, w=20000)] * 150)
        self.assertEqual(last(*begin, bill(0)), [1000 * 200 * 150])

    def test_no_such_order(self):
        self.refuses(CLOSED, bill(1), -2, LOOKS)
        self.refuses(CLOSED, bill(MOST), -2, LOOKS)
        self.refuses(NONE, bill(0), -2, LOOKS)

    def test_asking_changes_nothing(self):
        without = told(*CLOSED, *LOOKS)
        got = told(*CLOSED, bill(0), *LOOKS)
        self.assertEqual(got[:len(CLOSED)] + got[len(CLOSED) + 1:], without)


class States(LineCase):
    def test_each_state_is_one_of_its_own(self):
        states = []
        for calls in (OPEN, CLOSED, PACKED, GIVEN_OUT, CALLED_OFF):
            house = House()
            for call in calls:
                answer(house, call[0], read_call(call, 0)[0])
            states.append(house.orders[0].state)
        self.assertEqual(states, [0, 1, 2, 3, 4])
