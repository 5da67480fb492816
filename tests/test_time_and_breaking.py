"""Promise 4: tick and broken."""

from lines import MOST, LineCase, add, bill, broken, cancel, close, hand, last, order, pack, plan, planned, run
from lines import start, tick, told

LOOKS = (plan(0), plan(1), bill(0), run(1, 0), broken(0, 0), broken(1, 0), order(50), order(1000000), tick(45),
         tick(65), tick(75), tick(1000000), plan(0), pack(0), hand(0), pack(1))

# Two orders of a thing each, and two machines; washed undried, a load takes 45 minutes.
BEGIN = (start(bears=[5000, 5000]), order(), order(), add(0, t="W40B0D0I0"), add(1, t="W95B0D0I0", need=60),
         close(0), close(1))


class Tick(LineCase):
    def test_which_minutes(self):
        for t, wanted in ((100, 0), (101, 0), (1000000, 0), (99, -22), (0, -22), (1000001, -22), (MOST, -22)):
            self.assertEqual(last(start(), tick(100), tick(t)), [wanted], t)
        self.tells([(start(), 0), (tick(0), 0), (tick(0), 0), (tick(1000000), 0), (tick(1000000), 0),
                    (tick(999999), -22), (tick(1000001), -22)])

    def test_it_is_that_minute(self):
        self.tells([(start(), 0), (tick(40), 0), (order(39), -22), (order(40), 0), (tick(41), 0), (order(40), -22)])

    def test_refused_leaves_all(self):
        begin = (*BEGIN, run(0, 0), tick(44))
        self.refuses(begin, tick(43), -22, LOOKS)
        self.refuses(begin, tick(0), -22, LOOKS)
        self.refuses(begin, tick(1000001), -22, LOOKS)
        self.refuses(begin, tick(MOST), -22, LOOKS)

    def test_whatever_is_over_by_then_is_washed(self):
        for t, wanted in ((0, 0), (1, 0), (44, 0), (45, 1), (46, 1), (1000000, 1)):
            self.assertEqual(last(*BEGIN, run(0, 0), tick(t)), [wanted], t)

    def test_once_only(self):
        self.assertEqual(told(*BEGIN, run(0, 0), tick(45), tick(45), tick(50))[-3:], [[1], [0], [0]])

    def test_the_machine_is_empty_then(self):
        begin = (*BEGIN, run(0, 0))
        self.assertEqual(last(*begin, tick(44), run(0, 0)), [-16])
        self.assertEqual(last(*begin, tick(45), run(0, 0)), [75, 60, 0, 0, 0])
        self.assertEqual(last(*begin, tick(45), broken(0, 1)), [0])

    def test_what_is_washed_waits_no_more(self):
        begin = (*BEGIN, run(0, 0), tick(45))
        self.assertEqual(last(*begin, plan(0)), planned(1, (1, 0)))
        self.assertEqual(told(*begin, pack(0), pack(1))[-2:], [[1], [-61]])

    def test_so_many_things(self):
        things = [add(0, w=1)] * 9
        begin = (start(), order(), *things, close(0), run(0, 0))
        self.assertEqual(told(*begin, tick(65), run(0, 0), tick(130))[-3:], [[8], [65, 30, 0, 2, 2], [1]])

    def test_two_machines_done_at_one_moment(self):
        begin = (start(bears=[5000, 5000]), order(), add(0, w=3000), add(0, w=3000), add(0, w=1000), close(0),
                 run(0, 0), run(1, 0))
        self.assertEqual(told(*begin, tick(64), tick(65), pack(0))[-3:], [[0], [3], [3]])
        # The later one is the shorter: 60 degrees from 0 on, 30 degrees from 30 on.
        begin = (*BEGIN, run(0, 1), tick(30), run(1, 0))
        self.assertEqual(told(*begin, tick(74), tick(75), pack(0), pack(1))[-4:], [[0], [2], [1], [1]])

    def test_one_done_and_another_not(self):
        begin = (*BEGIN, run(0, 1), run(1, 0))
        self.assertEqual(told(*begin, tick(45), run(1, 0), run(0, 0), tick(75))[-4:], [[1], [-6], [-16], [1]])

    def test_in_one_step_or_in_two(self):
        begin = (*BEGIN, run(0, 0), run(1, 0))
        looks = (plan(0), pack(0), pack(1), broken(0, 1), broken(1, 1), order(99), order(100))
        for step in range(0, 100, 5):
            one = told(*begin, tick(100), *looks)
            two = told(*begin, tick(step), tick(100), *looks)
            self.assertEqual(two[len(begin)][0] + two[len(begin) + 1][0], one[len(begin)][0])
            self.assertEqual(two[len(begin) + 2:], one[len(begin) + 1:])

    def test_one_that_would_be_done_after_the_last_minute(self):
        begin = (start(), tick(999955), order(1000000), add(0, t="W40B0D0I0"), close(0))
        self.assertEqual(last(*begin, run(0, 0), tick(1000000)), [1])
        begin = (start(), tick(999956), order(1000000), add(0, t="W40B0D0I0"), close(0))
        self.assertEqual(told(*begin, run(0, 0), tick(1000000), pack(0))[-2:], [[0], [-61]])

    def test_an_order_due_already_is_washed_and_given_out(self):
        begin = (start(), order(10), add(0), close(0), tick(11), run(0, 0))
        self.assertEqual(told(*begin, tick(76), pack(0), hand(0))[-3:], [[1], [1], [100]])


class Broken(LineCase):
    def test_no_such_machine(self):
        self.refuses(BEGIN, broken(2, 1), -2, LOOKS)
        self.refuses(BEGIN, broken(MOST, 0), -2, LOOKS)
        # On is above 1, too: that there's no machine is told first.
        self.refuses(BEGIN, broken(2, 2), -2, LOOKS)

    def test_on_is_above_1(self):
        self.refuses(BEGIN, broken(0, 2), -22, LOOKS)
        self.refuses((*BEGIN, run(0, 0)), broken(0, MOST), -22, LOOKS)
        self.refuses((*BEGIN, broken(0, 1)), broken(0, 2), -22, LOOKS)

    def test_so_already(self):
        self.refuses(BEGIN, broken(0, 0), -17, LOOKS)
        self.refuses((*BEGIN, run(0, 0)), broken(0, 0), -17, LOOKS)
        self.refuses((*BEGIN, broken(0, 1)), broken(0, 1), -17, LOOKS)
        self.refuses((*BEGIN, run(0, 0), broken(0, 1)), broken(0, 1), -17, LOOKS)
        self.refuses((*BEGIN, broken(0, 1), broken(0, 0)), broken(0, 0), -17, LOOKS)

    def test_broken_and_mended(self):
        self.assertEqual(told(*BEGIN, broken(0, 1), broken(0, 0), broken(0, 1))[-3:], [[0], [0], [0]])
        self.assertEqual(last(*BEGIN, broken(0, 1), run(0, 0)), [-4])
        self.assertEqual(last(*BEGIN, broken(0, 1), run(1, 0)), [45, 30, 0, 0, 0])
        self.assertEqual(last(*BEGIN, broken(0, 1), broken(0, 0), run(0, 0)), [45, 30, 0, 0, 0])

    def test_what_was_in_it_waits_again(self):
        begin = (start(), order(), *[add(0, w=1)] * 3, close(0), run(0, 0), tick(30))
        self.assertEqual(told(*begin, plan(0), broken(0, 1), plan(0))[-3:],
                         [[-6], [3], planned(1, (0, 0), (1, 0), (2, 0))])

    def test_it_is_not_washed_by_what_had_run(self):
        begin = (*BEGIN, run(0, 0), tick(30), broken(0, 1), tick(45))
        self.assertEqual(told(*begin, pack(0), plan(0))[-3:], [[0], [-61], planned(2, (0, 0), (1, 1))])
        # Mended, it's empty, and begins from the beginning.
        begin = (*begin, broken(0, 0), run(0, 0))
        self.assertEqual(told(*begin, tick(89), tick(90), pack(0))[-5:], [[0], [45, 30, 0, 0, 0], [0], [1], [1]])

    def test_one_machine_alone_breaks(self):
        begin = (*BEGIN, run(0, 0), run(1, 0), broken(1, 1))
        self.assertEqual(told(*begin, plan(0), tick(45), tick(100))[-4:], [[1], planned(1, (1, 0)), [1], [0]])

    def test_it_breaks_as_it_is_done(self):
        begin = (*BEGIN, run(0, 0))
        self.assertEqual(told(*begin, tick(44), broken(0, 1), tick(45), pack(0))[-4:], [[0], [1], [0], [-61]])
        self.assertEqual(told(*begin, tick(45), broken(0, 1), tick(46), pack(0))[-4:], [[1], [0], [0], [1]])

    def test_what_came_out_runs_in_another(self):
        begin = (*BEGIN, run(0, 0), tick(10), broken(0, 1), run(1, 0))
        self.assertEqual(told(*begin, tick(54), tick(55), pack(0))[-3:], [[0], [1], [1]])

    def test_what_came_out_can_be_called_off(self):
        begin = (*BEGIN, run(0, 0))
        self.assertEqual(told(*begin, cancel(0), broken(0, 1), cancel(0), plan(0))[-4:],
                         [[-17], [1], [1], planned(1, (1, 0))])
