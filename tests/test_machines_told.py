"""Promise 8, and next of promise 9: waiting, machine, inside, next."""

from lines import EVERYTHING, MOST, LineCase, add, broken, cancel, close, hand, inside, last, machine, next_done, order
from lines import pack, run, start, tick, told, waiting

# Undried, a load takes 45 minutes at 30 degrees and 75 at 60.
COOL = "W30B0D0I0"
HOT = "W95__B1D0I0"
BEGIN = (start(1, [5000, 5000]), order(50), order(40), add(0, t=COOL), add(1, t=HOT, need=60), add(0, t=COOL),
         close(0), close(1))
# The load of 1 alone in machine 0, that of 0 and 2 in machine 1.
BOTH = (*BEGIN, run(0, 0), run(1, 0))
RAN = [1, 75, 60, 2, 1, 0]


class Waiting(LineCase):
    def test_none(self):
        self.assertEqual(last(start(), waiting()), [0])
        self.assertEqual(last(start(), order(), order(), add(0), waiting()), [0])

    def test_of_closed_orders_alone(self):
        begin = (start(), order(), order(), add(0), add(1), add(0), add(1))
        self.assertEqual(last(*begin, waiting()), [0])
        self.assertEqual(last(*begin, close(1), waiting()), [2, 1, 3])
        self.assertEqual(last(*begin, close(1), close(0), waiting()), [4, 0, 1, 2, 3])
        self.assertEqual(last(*begin, close(1), close(0), cancel(1), waiting()), [2, 0, 2])

    def test_due_earlier_first(self):
        self.assertEqual(last(*BEGIN, waiting()), [3, 1, 0, 2])
        dues = (30, 10, 20, 10)
        begin = (start(), *[order(due) for due in dues], *[add(o) for o in range(4)], *[add(o) for o in range(4)])
        self.assertEqual(last(*begin, *[close(o) for o in range(4)], waiting()), [8, 1, 3, 5, 7, 2, 6, 0, 4])

    def test_due_alike_the_lesser_number_first(self):
        begin = (start(), order(50), order(50), add(1), add(0), add(1))
        self.assertEqual(last(*begin, close(1), close(0), waiting()), [3, 0, 1, 2])

    def test_nine_and_more(self):
        self.assertEqual(last(start(), order(), *[add(0)] * 9, close(0), waiting()), [9, *range(9)])
        self.assertEqual(last(start(), order(), *[add(0)] * 150, close(0), waiting()), [150, *range(150)])

    def test_what_is_in_a_machine_does_not_wait(self):
        self.assertEqual(last(*BEGIN, run(0, 0), waiting()), [2, 0, 2])
        self.assertEqual(last(*BEGIN, run(0, 1), waiting()), [1, 1])
        self.assertEqual(last(*BOTH, waiting()), [0])

    def test_what_is_washed_does_not_wait(self):
        self.assertEqual(last(*BEGIN, run(0, 1), tick(45), waiting()), [1, 1])
        self.assertEqual(last(*BOTH, tick(75), waiting()), [0])
        self.assertEqual(last(*BOTH, tick(75), pack(0), pack(1), hand(0), waiting()), [0])

    def test_what_was_in_a_machine_that_broke_waits_where_it_did(self):
        self.assertEqual(last(*BOTH, broken(0, 1), waiting()), [1, 1])
        self.assertEqual(last(*BOTH, broken(1, 1), waiting()), [2, 0, 2])
        self.assertEqual(last(*BOTH, broken(1, 1), broken(0, 1), waiting()), [3, 1, 0, 2])

    def test_it_waits_though_every_machine_that_bears_it_is_broken(self):
        begin = (start(1, [1000, 3000]), order(), add(0, w=3000), close(0), broken(1, 1))
        self.assertEqual(last(*begin, waiting()), [1, 0])
        self.assertEqual(last(*begin, broken(0, 1), waiting()), [1, 0])


class Machine(LineCase):
    def test_empty(self):
        self.assertEqual(told(*BEGIN, machine(0), machine(1))[-2:], [[0], [0]])

    def test_running(self):
        self.assertEqual(told(*BOTH, machine(0), machine(1))[-2:], [RAN, [1, 45, 30, 0, 0, 0]])
        self.assertEqual(told(*BOTH, tick(44), machine(0), machine(1))[-2:], [RAN, [1, 45, 30, 0, 0, 0]])

    def test_the_program_is_that_which_run_answered(self):
        begin = (start(), tick(1000), order(1000), add(0, t="W60_B2D1I3", need=40), add(0, t="W40__B1D2I0"), close(0))
        self.assertEqual(told(*begin, run(0, 0), machine(0))[-2:], [[70, 40, 2, 1, 1], [1, 1070, 40, 2, 1, 1]])

    def test_until_when_not_for_how_long(self):
        self.assertEqual(last(*BEGIN, tick(30), run(1, 0), machine(1)), [1, 105, 60, 2, 1, 0])
        self.assertEqual(last(start(), tick(1000000), order(1000000), add(0, t=COOL), close(0), run(0, 0), machine(0)),
                         [1, 1000045, 30, 0, 0, 0])

    def test_done(self):
        self.assertEqual(told(*BOTH, tick(45), machine(0), machine(1))[-2:], [RAN, [0]])
        self.assertEqual(told(*BOTH, tick(76), machine(0), machine(1))[-2:], [[0], [0]])

    def test_it_runs_another_then(self):
        self.assertEqual(last(*BEGIN, run(0, 0), tick(80), run(0, 0), machine(0)), [1, 125, 30, 0, 0, 0])

    def test_broken(self):
        self.assertEqual(told(*BEGIN, broken(0, 1), machine(0), machine(1))[-2:], [[2], [0]])
        self.assertEqual(told(*BOTH, broken(0, 1), machine(0), machine(1))[-2:], [[2], [1, 45, 30, 0, 0, 0]])
        self.assertEqual(last(*BOTH, broken(0, 1), tick(75), machine(0)), [2])

    def test_mended(self):
        self.assertEqual(last(*BEGIN, broken(0, 1), broken(0, 0), machine(0)), [0])
        self.assertEqual(last(*BOTH, broken(0, 1), broken(0, 0), machine(0)), [0])
        self.assertEqual(last(*BOTH, broken(0, 1), broken(0, 0), tick(5), run(0, 0), machine(0)),
                         [1, 80, 60, 2, 1, 0])

    def test_it_breaks_as_it_is_done(self):
        self.assertEqual(told(*BOTH, tick(45), machine(1), broken(1, 1), machine(1), inside(1), waiting())[-5:],
                         [[0], [0], [2], [0], [0]])

    def test_no_such_machine(self):
        for k in (2, 4, MOST):
            self.refuses(BOTH, machine(k), -2)
        four = start(bears=[1000] * 4)
        self.assertEqual(last(four, machine(3)), [0])
        self.refuses((four,), machine(4), -2)


class Inside(LineCase):
    def test_empty(self):
        self.assertEqual(told(*BEGIN, inside(0), inside(1))[-2:], [[0], [0]])

    def test_running(self):
        self.assertEqual(told(*BOTH, inside(0), inside(1))[-2:], [[1, 1], [2, 0, 2]])
        self.assertEqual(told(*BOTH, tick(44), inside(0), inside(1))[-2:], [[1, 1], [2, 0, 2]])

    def test_in_the_plan_s_order(self):
        begin = (start(), order(30), order(10), order(20), add(0), add(1), add(2), add(1), close(0), close(1), close(2))
        self.assertEqual(last(*begin, run(0, 0), inside(0)), [4, 1, 3, 2, 0])

    def test_of_the_load_alone(self):
        begin = (start(), order(30), order(10), *[add(o, w=2000) for o in (0, 1, 0, 1, 0)], close(0), close(1))
        self.assertEqual(told(*begin, waiting(), run(0, 1), inside(0))[-3:],
                         [[5, 1, 3, 0, 2, 4], [65, 30, 0, 2, 2], [2, 0, 2]])

    def test_eight_of_nine(self):
        begin = (start(), order(50), order(40), *[add(0, w=1)] * 8, add(1, w=1), close(0), close(1))
        self.assertEqual(last(*begin, run(0, 0), inside(0)), [8, 8, *range(7)])

    def test_it_stays_so_whatever_comes_to_wait(self):
        begin = (*BEGIN, order(0), run(0, 1))
        self.assertEqual(told(*begin, inside(0), add(2, t=COOL), close(2), waiting(), inside(0))[-5:],
                         [[2, 0, 2], [3], [0], [2, 3, 1], [2, 0, 2]])

    def test_done(self):
        self.assertEqual(told(*BOTH, tick(45), inside(0), inside(1))[-2:], [[1, 1], [0]])

    def test_broken_and_mended(self):
        self.assertEqual(last(*BEGIN, broken(0, 1), inside(0)), [0])
        self.assertEqual(told(*BOTH, broken(1, 1), inside(0), inside(1))[-2:], [[1, 1], [0]])
        self.assertEqual(told(*BOTH, broken(1, 1), broken(1, 0), inside(0), inside(1))[-2:], [[1, 1], [0]])

    def test_no_such_machine(self):
        for k in (2, 4, MOST):
            self.refuses(BOTH, inside(k), -2)
        four = start(bears=[1000] * 4)
        self.assertEqual(last(four, inside(3)), [0])
        self.refuses((four,), inside(4), -2)


class Next(LineCase):
    def test_nothing_runs(self):
        self.refuses((start(),), next_done(), -6)
        self.refuses(BEGIN, next_done(), -6)
        self.refuses((*BOTH, tick(75)), next_done(), -6)
        self.refuses((*BOTH, broken(0, 1), broken(1, 1)), next_done(), -6)

    def test_one_runs(self):
        self.assertEqual(last(*BEGIN, run(0, 0), next_done()), [75])
        self.assertEqual(last(*BEGIN, run(1, 1), next_done()), [45])
        self.assertEqual(last(*BEGIN, tick(1000), run(1, 1), next_done()), [1045])

    def test_the_one_that_is_done_first(self):
        self.assertEqual(last(*BOTH, next_done()), [45])
        self.assertEqual(last(*BEGIN, run(0, 1), run(1, 0), next_done()), [45])
        self.assertEqual(told(*BOTH, tick(44), next_done(), tick(45), next_done(), tick(75), next_done())[-5:],
                         [[45], [2], [75], [1], [-6]])

    def test_two_machines_done_at_one_moment(self):
        begin = (*BEGIN, run(0, 0), tick(30), run(1, 0))
        self.assertEqual(told(*begin, machine(0), machine(1), next_done())[-3:],
                         [RAN, [1, 75, 30, 0, 0, 0], [75]])
        self.assertEqual(told(*begin, tick(74), next_done(), tick(75), next_done(), waiting())[-4:],
                         [[75], [3], [-6], [0]])
        # One of them breaks: the other is done at that moment still.
        self.assertEqual(last(*begin, broken(0, 1), next_done()), [75])
        self.assertEqual(last(*begin, broken(1, 1), next_done()), [75])

    def test_one_that_breaks(self):
        self.assertEqual(last(*BOTH, broken(1, 1), next_done()), [75])
        self.assertEqual(last(*BOTH, broken(0, 1), next_done()), [45])
        self.assertEqual(last(*BOTH, broken(1, 1), broken(1, 0), next_done()), [75])
        self.assertEqual(last(*BOTH, broken(1, 1), broken(1, 0), tick(40), run(1, 0), next_done()), [75])

    def test_after_the_last_minute(self):
        begin = (start(), tick(1000000), order(1000000), add(0, t=COOL), close(0), run(0, 0))
        self.assertEqual(last(*begin, next_done()), [1000045])


class Asking(LineCase):
    def test_asking_changes_nothing(self):
        for ask in (waiting(), machine(0), machine(1), inside(0), inside(1), next_done()):
            for calls in (BEGIN, BOTH, (*BOTH, tick(45)), (*BOTH, broken(0, 1)), (*BOTH, tick(75), pack(0), hand(0))):
                got = told(*calls, ask, *EVERYTHING, run(0, 0), tick(100), *EVERYTHING)
                without = told(*calls, *EVERYTHING, run(0, 0), tick(100), *EVERYTHING)
                self.assertEqual(got[len(calls) + 1:], without[len(calls):])
