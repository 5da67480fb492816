"""Promise 9: state, late, till, all."""

from lines import EVERYTHING, MOST, LineCase, add, all_there_is, bill, broken, cancel, close, hand, last, late, order
from lines import pack, run, start, state, tick, till, told

OPEN = (start(10, [5000, 2000]), order(80), order(70), add(1, w=2000), add(0), add(1, w=2000), add(1, w=2000))
CLOSED = (*OPEN, close(1))
# The first two of order 1 are in one machine, the third in another, which runs till later.
RUNNING = (*CLOSED, run(0, 0), tick(20), run(1, 0))
SOME_WASHED = (*RUNNING, tick(65))
WASHED = (*RUNNING, tick(85))
PACKED = (*WASHED, pack(1))
GIVEN_OUT = (*PACKED, hand(1))
CALLED_OFF = (*CLOSED, cancel(1))


class State(LineCase):
    def state(self, calls, wanted):
        """Of order 1, and that order 0 has nothing of it."""
        self.assertEqual(told(*calls, state(1), state(0))[-2:], [wanted, [0, 80, 1, 0]])

    def test_open(self):
        self.state(OPEN, [0, 70, 3, 0])
        self.assertEqual(last(start(), order(9), state(0)), [0, 9, 0, 0])
        self.assertEqual(told(*OPEN, add(1), state(1))[-1], [0, 70, 4, 0])

    def test_closed(self):
        self.state(CLOSED, [1, 70, 3, 0])
        self.state(RUNNING, [1, 70, 3, 0])
        self.state((*RUNNING, tick(64)), [1, 70, 3, 0])

    def test_how_many_are_washed_and_not_packed(self):
        self.state(SOME_WASHED, [1, 70, 3, 2])
        self.state((*SOME_WASHED, tick(84)), [1, 70, 3, 2])
        self.state(WASHED, [1, 70, 3, 3])
        self.state((*SOME_WASHED, broken(1, 1)), [1, 70, 3, 2])
        self.state((*SOME_WASHED, broken(1, 1), tick(85)), [1, 70, 3, 2])
        self.state((*RUNNING, broken(0, 1), tick(85)), [1, 70, 3, 1])

    def test_packed(self):
        self.state(PACKED, [2, 70, 3, 0])

    def test_given_out(self):
        self.state(GIVEN_OUT, [3, 70, 3, 0])

    def test_called_off(self):
        self.state(CALLED_OFF, [4, 70, 3, 0])
        self.state((*OPEN, cancel(1)), [4, 70, 3, 0])
        self.assertEqual(last(start(), order(9), cancel(0), state(0)), [4, 9, 0, 0])

    def test_refused_changes_no_state(self):
        self.state((*OPEN, pack(1), hand(1)), [0, 70, 3, 0])
        self.state((*RUNNING, cancel(1), pack(1), close(1)), [1, 70, 3, 0])

    def test_when_it_is_due(self):
        for due in (5, 6, 999999, 1000000):
            self.assertEqual(last(start(), tick(5), order(due), tick(10), state(0)), [0, due, 0, 0])

    def test_no_such_order(self):
        for o in (2, 60, MOST):
            self.refuses(CLOSED, state(o), -2)
        self.refuses((start(),), state(0), -2)

    def test_the_last_order_there_is(self):
        begin = (start(), *[order(5 + o) for o in range(60)], add(59))
        self.assertEqual(last(*begin, state(59)), [0, 64, 1, 0])
        self.refuses(begin, state(60), -2)


class Late(LineCase):
    def test_none(self):
        self.assertEqual(last(start(), late()), [0])
        self.assertEqual(last(start(), order(0), order(50), late()), [0])

    def test_due_at_this_very_minute_and_a_minute_ago(self):
        begin = (start(), order(50), order(51))
        self.assertEqual(last(*begin, tick(50), late()), [0])
        self.assertEqual(last(*begin, tick(51), late()), [1, 0])
        self.assertEqual(last(*begin, tick(52), late()), [2, 0, 1])
        self.assertEqual(last(start(), order(0), tick(1), late()), [1, 0])
        self.assertEqual(last(start(), order(999999), order(1000000), tick(1000000), late()), [1, 0])

    def test_all_five_states(self):
        for calls, is_late in ((OPEN, True), (CLOSED, True), (RUNNING, True), (SOME_WASHED, True), (WASHED, True),
                               (PACKED, True), (GIVEN_OUT, False), (CALLED_OFF, False), ((*OPEN, cancel(1)), False)):
            self.assertEqual(last(*calls, tick(500), late()), [2, 0, 1] if is_late else [1, 0])

    def test_all_five_states_at_once(self):
        orders = [order(10), order(20), order(30), order(40), order(15)]
        begin = (start(1, [20000]), *orders, *[add(o) for o in range(5)], close(1), close(2), close(3), close(4),
                 cancel(4), run(0, 0), tick(65), pack(2), pack(3), hand(3))
        self.assertEqual(told(*begin, *[state(o)[:2] for o in range(5)])[-5:],
                         [[0, 10, 1, 0], [1, 20, 1, 1], [2, 30, 1, 0], [3, 40, 1, 0], [4, 15, 1, 0]])
        self.assertEqual(last(*begin, late()), [3, 0, 1, 2])

    def test_rising_whenever_they_were_due(self):
        self.assertEqual(last(start(), order(30), order(10), order(20), order(99), order(5), tick(40), late()),
                         [4, 0, 1, 2, 4])

    def test_one_that_has_nothing(self):
        self.assertEqual(last(start(), order(3), tick(4), late()), [1, 0])

    def test_given_out_late_it_is_late_no_more(self):
        self.assertEqual(told(*PACKED, tick(90), late(), hand(1), late())[-3:], [[2, 0, 1], [60 * 10], [1, 0]])

    def test_sixty(self):
        self.assertEqual(last(start(), *[order(3)] * 60, tick(4), late()), [60, *range(60)])


class Till(LineCase):
    def test_nothing_was_paid(self):
        for calls in ((start(),), OPEN, CLOSED, RUNNING, WASHED, PACKED, CALLED_OFF, (*PACKED, bill(1))):
            self.assertEqual(last(*calls, till()), [0])

    def test_what_was_paid(self):
        self.assertEqual(told(*GIVEN_OUT, till())[-2:], [[600], [600]])

    def test_several_bills(self):
        begin = (start(3, [20000]), *[order()] * 3, add(0, w=150), add(1, w=1000), add(2, w=99), close(0), close(1),
                 close(2), run(0, 0), tick(65), pack(0), pack(1), pack(2))
        self.assertEqual(told(*begin, hand(1), till(), hand(0), till(), hand(2), till())[-6:],
                         [[30], [30], [6], [36], [3], [39]])

    def test_refused_nothing_is_paid(self):
        self.assertEqual(told(*GIVEN_OUT, hand(1), hand(0), hand(2), till())[-4:], [[-16], [-16], [-2], [600]])

    def test_called_off_nothing_is_paid(self):
        self.assertEqual(told(*GIVEN_OUT, cancel(0), hand(0), till())[-3:], [[1], [-16], [600]])

    def test_for_nothing(self):
        self.assertEqual(last(start(0), order(), add(0), close(0), run(0, 0), tick(65), pack(0), hand(0), till()), [0])

    def test_start_has_come_again(self):
        self.assertEqual(told(*GIVEN_OUT, start(2), till())[-2:], [[0], [0]])
        again = (start(2), order(), add(0), close(0), run(0, 0), tick(65), pack(0), hand(0))
        self.assertEqual(told(*GIVEN_OUT, *again, till())[-2:], [[20], [20]])
        self.assertEqual(told(*GIVEN_OUT, start(1001), till())[-2:], [[-22], [600]])

    def test_the_greatest(self):
        things = [add(0, w=20000)] * 150
        washed = [call for turn in range(1, 151) for call in (run(0, 0), tick(65 * turn))]
        begin = (start(1000, [20000]), order(), *things, close(0), *washed, pack(0))
        self.assertEqual(told(*begin, hand(0), till())[-2:], [[30000000], [30000000]])


class All(LineCase):
    def test_nothing(self):
        self.assertEqual(last(start(), all_there_is()), [0, 0, 0, 0])

    def test_now(self):
        self.assertEqual(last(start(), tick(77), all_there_is()), [77, 0, 0, 0])
        self.assertEqual(last(start(), tick(1000000), tick(5), all_there_is()), [1000000, 0, 0, 0])

    def test_how_many(self):
        self.assertEqual(last(*OPEN, all_there_is()), [0, 2, 4, 0])
        self.assertEqual(last(*CLOSED, all_there_is()), [0, 2, 4, 3])
        self.assertEqual(last(*CLOSED, run(0, 0), all_there_is()), [0, 2, 4, 1])
        self.assertEqual(last(*RUNNING, all_there_is()), [20, 2, 4, 0])
        self.assertEqual(last(*RUNNING, broken(0, 1), all_there_is()), [20, 2, 4, 2])
        self.assertEqual(last(*RUNNING, broken(1, 1), all_there_is()), [20, 2, 4, 1])
        self.assertEqual(last(*GIVEN_OUT, all_there_is()), [85, 2, 4, 0])
        self.assertEqual(last(*GIVEN_OUT, close(0), all_there_is()), [85, 2, 4, 1])

    def test_what_is_called_off_is_there_still(self):
        self.assertEqual(last(*CALLED_OFF, all_there_is()), [0, 2, 4, 0])

    def test_refused_there_is_no_more(self):
        self.assertEqual(last(*OPEN, order(1000001), add(0, w=0), add(2), all_there_is()), [0, 2, 4, 0])

    def test_the_most(self):
        begin = (start(), *[order()] * 61, *[add(59, w=1)] * 151, close(59))
        self.assertEqual(last(*begin, all_there_is()), [0, 60, 150, 150])

    def test_start_has_come_again(self):
        self.assertEqual(told(*RUNNING, start(), all_there_is())[-2:], [[0], [0, 0, 0, 0]])


class Asking(LineCase):
    def test_asking_changes_nothing(self):
        behind = (*EVERYTHING, run(0, 0), tick(600), *EVERYTHING)
        for ask in (state(0), state(1), late(), till(), all_there_is()):
            for calls in (OPEN, CLOSED, RUNNING, WASHED, PACKED, GIVEN_OUT, CALLED_OFF):
                self.assertEqual(told(*calls, ask, *behind)[len(calls) + 1:], told(*calls, *behind)[len(calls):])
