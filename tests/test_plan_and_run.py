"""Promise 3: plan and run, and which things wait for a machine, in which order."""

from lines import MOST, LineCase, add, bill, broken, cancel, close, hand, last, order, pack, plan, planned, run
from lines import start, tick, told

LOOKS = (plan(0), plan(1), plan(2), bill(0), tick(44), tick(45), tick(300), plan(0), plan(1), broken(0, 1),
         broken(1, 1), broken(0, 0), plan(0), plan(1), pack(0), hand(0), cancel(1), add(0), close(0))


def waiting(*things, bears=(5000,), due=100):
    """One order of these things, closed."""
    return (start(bears=bears), order(due), *things, close(0))


class Plan(LineCase):
    def test_no_such_machine(self):
        self.refuses(waiting(add(0)), plan(1), -2, LOOKS)
        self.refuses(waiting(add(0), bears=[5000, 5000]), plan(2), -2, LOOKS)
        self.refuses(waiting(add(0)), plan(MOST), -2, LOOKS)
        # Nothing waits either: that there's no machine is told first.
        self.refuses((start(),), plan(1), -2, LOOKS)

    def test_nothing_is_there(self):
        self.refuses((start(),), plan(0), -6, LOOKS)
        self.refuses((start(), order(), add(0)), plan(0), -6, LOOKS)
        self.refuses(waiting(add(0, w=1001), bears=[1000, 2000]), plan(0), -6, LOOKS)
        self.refuses((*waiting(add(0)), run(0, 0)), plan(0), -6, LOOKS)
        self.refuses((*waiting(add(0)), run(0, 0), tick(45)), plan(0), -6, LOOKS)
        self.refuses((*waiting(add(0)), run(0, 0), tick(45), pack(0)), plan(0), -6, LOOKS)
        self.refuses((*waiting(add(0)), cancel(0)), plan(0), -6, LOOKS)

    def test_one_thing(self):
        self.assertEqual(last(*waiting(add(0)), plan(0)), [1, 1, 0, 0])

    def test_several(self):
        things = [add(0, w=3000), add(0, w=3000), add(0, w=2000)]
        self.assertEqual(last(*waiting(*things), plan(0)), [2, 3, 0, 0, 1, 1, 2, 0])

    def test_asking_changes_nothing(self):
        begin = waiting(add(0, w=3000), add(0, w=3000))
        self.tells([(call, told(*begin)[at]) for at, call in enumerate(begin)]
                   + [(plan(0), planned(2, (0, 0), (1, 1)))] * 3 + [(run(0, 0), [65, 30, 0, 2, 2])])

    def test_of_a_machine_that_is_broken_or_runs(self):
        begin = waiting(add(0, w=3000), add(0, w=3000), bears=[5000, 4000])
        self.assertEqual(last(*begin, broken(0, 1), plan(0)), planned(2, (0, 0), (1, 1)))
        self.assertEqual(last(*begin, run(0, 0), plan(0)), planned(1, (1, 0)))

    def test_what_it_bears(self):
        things = [add(0, w=2001), add(0, w=2000), add(0, w=1999), add(0, w=4000)]
        begin = waiting(*things, bears=[2000, 4000, 3999])
        self.assertEqual(last(*begin, plan(0)), planned(2, (1, 0), (2, 1)))
        self.assertEqual(last(*begin, plan(1)), planned(3, (0, 0), (1, 1), (2, 0), (3, 2)))
        self.assertEqual(last(*begin, plan(2)), planned(2, (0, 0), (1, 1), (2, 1)))


class Order(LineCase):
    def due(self, *dues):
        """An order of one thing for each due, all closed."""
        orders = [order(due) for due in dues]
        things = [add(o) for o in range(len(dues))]
        return (start(bears=[20000]), *orders, *things, *[close(o) for o in range(len(dues))])

    def numbers(self, *calls):
        return last(*calls, plan(0))[2::2]

    def test_due_earlier_first(self):
        self.assertEqual(self.numbers(*self.due(30, 20, 10)), [2, 1, 0])
        self.assertEqual(self.numbers(*self.due(10, 20, 30)), [0, 1, 2])
        self.assertEqual(self.numbers(*self.due(20, 30, 10)), [2, 0, 1])

    def test_due_alike(self):
        self.assertEqual(self.numbers(*self.due(20, 10, 20, 10)), [1, 3, 0, 2])

    def test_due_alike_the_lesser_thing_is_first_whatever_its_order(self):
        begin = (start(bears=[20000]), order(50), order(50), add(1), add(0), add(1), add(0))
        self.assertEqual(self.numbers(*begin, close(0), close(1)), [0, 1, 2, 3])
        self.assertEqual(self.numbers(*begin, close(1), close(0)), [0, 1, 2, 3])

    def test_not_in_the_order_they_were_closed(self):
        begin = (start(), order(20), order(10), add(0), add(1))
        self.assertEqual(self.numbers(*begin, close(0), close(1)), [1, 0])

    def test_those_due_already_are_first_like_before(self):
        self.assertEqual(self.numbers(*self.due(30, 10, 20), tick(25)), [1, 2, 0])

    def test_what_comes_out_of_a_machine_is_where_it_was(self):
        begin = (*self.due(30, 10, 20), run(0, 0), tick(5), broken(0, 1))
        self.assertEqual(self.numbers(*begin), [1, 2, 0])


class NineThatWait(LineCase):
    def test_the_ninth_is_not_in_the_plan(self):
        begin = waiting(*[add(0, w=100 * number) for number in range(1, 10)], bears=[20000])
        self.assertEqual(last(*begin, plan(0)), planned(1, *[(number, 0) for number in range(8)]))
        self.tells([(call, told(*begin)[at]) for at, call in enumerate(begin)]
                   + [(run(0, 1), -22), (run(0, 0), [65, 30, 0, 2, 2]), (plan(0), planned(1, (8, 0)))])

    def test_eight_are_all_in_it(self):
        begin = waiting(*[add(0, w=1)] * 8)
        self.assertEqual(last(*begin, plan(0)), planned(1, *[(number, 0) for number in range(8)]))

    def test_the_ninth_is_in_it_where_one_ahead_is_too_heavy(self):
        things = [add(0, w=2000), *[add(0, w=100)] * 8, add(0, w=100)]
        begin = waiting(*things, bears=[1000, 20000])
        self.assertEqual(last(*begin, plan(0)), planned(1, *[(number, 0) for number in range(1, 9)]))
        self.assertEqual(last(*begin, plan(1)), planned(1, *[(number, 0) for number in range(8)]))

    def test_the_ninth_by_due_not_by_number(self):
        begin = (start(), order(20), order(10), *[add(0, w=1)] * 8, add(1, w=1), close(0), close(1))
        self.assertEqual(last(*begin, plan(0)), planned(1, (8, 0), *[(number, 0) for number in range(7)]))


class Run(LineCase):
    def test_no_such_machine(self):
        self.refuses(waiting(add(0)), run(1, 0), -2, LOOKS)
        self.refuses(waiting(add(0)), run(MOST, MOST), -2, LOOKS)

    def test_broken(self):
        begin = (*waiting(add(0), bears=[5000, 5000]), broken(0, 1))
        self.refuses(begin, run(0, 0), -4, LOOKS)
        # There's no such load, or nothing at all: that it's broken is told first.
        self.refuses(begin, run(0, 1), -4, LOOKS)
        self.refuses((start(), broken(0, 1)), run(0, 0), -4, LOOKS)
        self.assertEqual(last(*begin, run(1, 0)), [65, 30, 0, 2, 2])
        self.assertEqual(last(*begin, broken(0, 0), run(0, 0)), [65, 30, 0, 2, 2])

    def test_it_runs(self):
        begin = (*waiting(add(0, w=3000), add(0, w=3000), bears=[5000, 5000]), run(0, 0))
        self.refuses(begin, run(0, 0), -16, LOOKS)
        # There's no such load, or nothing more: that it runs is told first.
        self.refuses(begin, run(0, 1), -16, LOOKS)
        self.refuses((*waiting(add(0)), run(0, 0)), run(0, 0), -16, LOOKS)
        self.refuses((*begin, tick(64)), run(0, 0), -16, LOOKS)
        self.assertEqual(last(*begin, tick(65), run(0, 0)), [65, 30, 0, 2, 2])
        self.assertEqual(last(*begin, run(1, 0)), [65, 30, 0, 2, 2])

    def test_nothing_is_there(self):
        self.refuses((start(),), run(0, 0), -6, LOOKS)
        self.refuses((start(), order(), add(0)), run(0, 0), -6, LOOKS)
        self.refuses((*waiting(add(0)), cancel(0)), run(0, 7), -6, LOOKS)
        self.refuses(waiting(add(0, w=2000), bears=[1000, 2000]), run(0, 0), -6, LOOKS)

    def test_no_such_load(self):
        self.refuses(waiting(add(0)), run(0, 1), -22, LOOKS)
        self.refuses(waiting(add(0)), run(0, MOST), -22, LOOKS)
        self.refuses(waiting(add(0, w=3000), add(0, w=3000)), run(0, 2), -22, LOOKS)

    def test_that_load_alone_runs(self):
        begin = waiting(add(0, w=3000), add(0, w=3000), add(0, w=2000), bears=[5000, 20000])
        self.assertEqual(last(*begin, run(0, 0), plan(1)), planned(1, (1, 0)))
        self.assertEqual(last(*begin, run(0, 1), plan(1)), planned(1, (0, 0), (2, 0)))
        self.assertEqual(last(*begin, run(0, 0), broken(0, 1)), [2])
        self.assertEqual(last(*begin, run(0, 1), broken(0, 1)), [1])

    def test_the_load_is_that_of_this_machine_s_plan(self):
        begin = waiting(add(0, w=900), add(0, w=900), bears=[1000, 2000])
        self.assertEqual(last(*begin, run(0, 1), plan(0)), planned(1, (0, 0)))
        self.assertEqual(last(*begin, run(1, 1)), [-22])
        self.assertEqual(last(*begin, run(1, 0), plan(1)), [-6])

    def test_from_now_on(self):
        begin = (*waiting(add(0, t="W40B0D0I0")), tick(1000), run(0, 0))
        self.assertEqual(last(*begin, tick(1044)), [0])
        self.assertEqual(last(*begin, tick(1045)), [1])

    def test_minutes(self):
        for need, minutes in ((0, 45), (30, 45), (40, 60), (60, 75), (95, 90)):
            for dry in range(3):
                begin = waiting(add(0, t=f"W95B0D{dry}I0", need=need))
                wanted = [minutes + 10 * dry, max(need, 30), 0, 0, dry]
                self.assertEqual(last(*begin, run(0, 0)), wanted)
                self.assertEqual(last(*begin, run(0, 0), tick(wanted[0] - 1)), [0])
                self.assertEqual(last(*begin, run(0, 0), tick(wanted[0])), [1])


class MildestProgram(LineCase):
    def test_each_part_is_that_of_the_thing_that_bears_least(self):
        things = [add(0, t="W60B2D1I0"), add(0, t="W95_B1D2I0", need=40), add(0, t="W40__B2D2I0", need=30)]
        self.assertEqual(last(*waiting(*things), run(0, 0)), [70, 40, 2, 1, 1])

    def test_of_the_load_alone(self):
        things = [add(0, w=4000, t="W30__B0D0I0"), add(0, w=4000, t="W95B2D2I0", need=95)]
        self.assertEqual(last(*waiting(*things), run(0, 0)), [45, 30, 2, 0, 0])
        self.assertEqual(last(*waiting(*things), run(0, 1)), [110, 95, 0, 2, 2])

    def test_least_heat(self):
        self.assertEqual(last(*waiting(add(0, t="W95B0D0I0")), run(0, 0))[1], 30)
        things = [add(0, t="W95B0D0I0", need=60), add(0, t="W60B0D0I0")]
        self.assertEqual(last(*waiting(*things), plan(0)), planned(1, (0, 0), (1, 0)))
        self.assertEqual(last(*waiting(*things), run(0, 0)), [75, 60, 0, 0, 0])

    def test_exactly_as_hot_as_it_may_be(self):
        for heat, minutes in ((30, 45), (40, 60), (60, 75), (95, 90)):
            begin = waiting(add(0, t=f"W{heat}B0D0I0", need=heat))
            self.assertEqual(last(*begin, run(0, 0)), [minutes, heat, 0, 0, 0])

    def test_ironing_says_nothing_of_washing(self):
        things = [add(0, t="W40B2D2I0"), add(0, t="W40B2D2I3")]
        self.assertEqual(last(*waiting(*things), run(0, 0)), [65, 30, 0, 2, 2])


class GoTogether(LineCase):
    def together(self, one, other):
        for pair in ((one, other), (other, one)):
            self.assertEqual(last(*waiting(*pair, bears=[20000]), plan(0)), planned(1, (0, 0), (1, 0)))

    def apart(self, one, other):
        for pair in ((one, other), (other, one)):
            self.assertEqual(last(*waiting(*pair, bears=[20000]), plan(0)), planned(2, (0, 0), (1, 1)))

    def test_a_load_whose_colour_runs(self):
        self.apart(add(0, colour=1, runs=1), add(0, colour=2))
        self.apart(add(0, colour=1, runs=1), add(0, colour=2, runs=1))
        self.together(add(0, colour=1, runs=1), add(0, colour=1))
        self.together(add(0, colour=1, runs=1), add(0, colour=1, runs=1))
        self.together(add(0, colour=1), add(0, colour=2))

    def test_each_two_not_only_those_behind_one_another(self):
        things = [add(0, colour=1), add(0, colour=2), add(0, colour=2, runs=1), add(0, colour=1, runs=1)]
        self.assertEqual(last(*waiting(*things), plan(0)), planned(2, (0, 0), (1, 1), (2, 1), (3, 0)))

    def test_heats_that_do_not_meet(self):
        self.apart(add(0, t="W30B0D0I0"), add(0, t="W95B0D0I0", need=40))
        self.apart(add(0, t="W60B0D0I0"), add(0, t="W95B0D0I0", need=95))
        self.together(add(0, t="W60B0D0I0"), add(0, t="W95B0D0I0", need=60))
        self.together(add(0, t="W30B0D0I0"), add(0, t="W30__B2D2I3", need=30))

    def test_gentle_bleached_and_dried_go_with_all(self):
        self.together(add(0, t="W40__B0D0I0"), add(0, t="W40B2D2I3"))

    def test_exactly_so_heavy_as_the_drum_bears(self):
        for bears in (1000, 5000, 20000):
            whole = [add(0, w=bears // 2), add(0, w=bears - bears // 2)]
            more = [add(0, w=bears // 2), add(0, w=bears - bears // 2 + 1)]
            self.assertEqual(last(*waiting(*whole, bears=[bears]), plan(0)), planned(1, (0, 0), (1, 0)))
            self.assertEqual(last(*waiting(*more, bears=[bears]), plan(0)), planned(2, (0, 0), (1, 1)))

    def test_a_thing_as_heavy_as_the_greatest_drum_bears(self):
        begin = waiting(add(0, w=20000), add(0, w=1), bears=[1000, 20000])
        self.tells([(call, told(*begin)[at]) for at, call in enumerate(begin)]
                   + [(plan(0), planned(1, (1, 0))), (plan(1), planned(2, (0, 0), (1, 1))),
                      (run(1, 0), [65, 30, 0, 2, 2]), (tick(65), 1), (plan(1), planned(1, (1, 0)))])
