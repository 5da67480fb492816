"""Promises 1 and 2: start, order, add, close."""

from lines import MOST, LineCase, add, bill, broken, cancel, close, hand, last, order, pack, plan, planned, run
from lines import start, tick, told

# What is asked behind a refused call, so that nothing it changed would stay unseen.
LOOKS = (bill(0), bill(1), plan(0), plan(1), plan(2), order(999999), add(0), close(0), plan(0), broken(1, 1),
         broken(0, 0), run(0, 0), tick(40), tick(90), tick(1000000), pack(0), hand(0), cancel(1))


class Start(LineCase):
    def test_price(self):
        for price, wanted in ((0, 0), (1, 0), (999, 0), (1000, 0), (1001, -22), (MOST, -22)):
            self.assertEqual(last(start(price)), [wanted], price)

    def test_the_price_is_kept(self):
        for price in (0, 1, 1000):
            self.assertEqual(last(start(price), order(), add(0, w=300), bill(0)), [3 * price])

    def test_how_many_machines(self):
        for many in range(11):
            wanted = 0 if 1 <= many <= 4 else -22
            self.assertEqual(last(start(bears=[1000] * many)), [wanted], many)

    def test_what_a_machine_bears(self):
        for grams, wanted in ((1000, 0), (20000, 0), (999, -22), (20001, -22), (0, -22), (1, -22), (65535, -22)):
            self.assertEqual(last(start(bears=[grams])), [wanted], grams)
            for at in range(4):
                bears = [5000] * 4
                bears[at] = grams
                self.assertEqual(last(start(bears=bears)), [wanted], bears)

    def test_there_are_these_machines_and_none_is_broken(self):
        for many in range(1, 5):
            begin = start(bears=[1000] * many)
            for k in range(6):
                self.assertEqual(last(begin, broken(k, 0)), [-17 if k < many else -2])
                self.assertEqual(last(begin, plan(k)), [-6 if k < many else -2])

    def test_each_machine_bears_its_own(self):
        begin = (start(bears=[1000, 3000, 2000]), order(), add(0, w=2000), add(0, w=3000), add(0, w=1000), close(0))
        self.assertEqual(last(*begin, plan(0)), planned(1, (2, 0)))
        self.assertEqual(last(*begin, plan(1)), planned(2, (0, 0), (1, 1), (2, 0)))
        self.assertEqual(last(*begin, plan(2)), planned(2, (0, 0), (2, 1)))

    def test_it_is_minute_0_and_there_are_no_orders(self):
        self.tells([(start(), 0), (bill(0), -2), (order(0), 0), (tick(0), 0)])

    def test_start_again_makes_all_new(self):
        before = (start(7, [2000, 2000]), order(5), add(0), close(0), run(0, 0), broken(1, 1), tick(30),
                  order(50), add(1))
        self.assertEqual(told(*before)[-1], [1])
        behind = (bill(0), bill(1), plan(0), broken(0, 0), broken(1, 0), order(0), add(0, w=2500), close(0),
                  plan(0), run(0, 0), tick(44), tick(45), pack(0), hand(0))
        again = start(3, [3000])
        self.assertEqual(told(*before, again, *behind)[len(before):], told(again, *behind))

    def test_a_refused_start_leaves_all(self):
        before = (start(7, [2000, 3000]), order(50), add(0), add(0, w=1500), close(0), order(60), add(1),
                  tick(20), run(0, 0))
        looks = (bill(0), plan(0), plan(1), plan(2), order(19), order(20), tick(64), tick(65), pack(0), add(1, w=3000))
        for call in (start(1001, [5000]), start(3, []), start(3, [5000] * 5), start(3, [5000, 999])):
            self.refuses(before, call, -22, looks)

    def test_refused_ahead_of_one_that_is_not(self):
        self.tells([(start(1001), -22), (start(0, []), -22), (start(2, [65535]), -22), (start(2), 0), (order(0), 0)])


class Order(LineCase):
    def test_its_number(self):
        self.tells([(start(), 0), (order(9), 0), (order(3), 1), (order(9), 2)])

    def test_due(self):
        for due, wanted in ((99, -22), (100, 0), (101, 0), (999999, 0), (1000000, 0), (1000001, -22), (0, -22),
                            (MOST, -22)):
            self.assertEqual(last(start(), tick(100), order(due)), [wanted], due)
        self.assertEqual(last(start(), order(0)), [0])
        self.tells([(start(), 0), (tick(1000000), 0), (order(999999), -22), (order(1000000), 0)])

    def test_sixty(self):
        orders = [order(5)] * 60
        self.assertEqual(told(start(), *orders)[1:], [[number] for number in range(60)])
        self.refuses((start(), *orders), order(5), -28, (bill(59), bill(60), add(59), close(59), plan(0)))
        self.assertEqual(last(start(), *orders, order(1000001)), [-22])
        self.assertEqual(last(start(), *orders, tick(6), order(5)), [-22])

    def test_one_called_off_or_given_out_is_there_still(self):
        begin = (start(), *[order(5)] * 60, add(0), close(0), run(0, 0), tick(45), pack(0), hand(0))
        self.assertEqual(last(*begin, cancel(7), order(99)), [-28])
        self.assertEqual(last(start(), *[order(5)] * 59, cancel(58), order(5)), [59])

    def test_refused_leaves_all(self):
        self.refuses((start(), tick(10), order(20), add(0)), order(9), -22, LOOKS)
        self.refuses((start(), tick(10), order(20), add(0)), order(1000001), -22, LOOKS)


class Add(LineCase):
    begin = (start(bears=[2000, 4000]), order(), order())

    def refused(self, call, refusal, begin=begin):
        self.refuses(begin, call, refusal, LOOKS)

    def test_its_number(self):
        self.tells([(start(), 0), (order(), 0), (order(), 1), (add(1), 0), (add(0), 1), (add(1), 2)])

    def test_no_such_order(self):
        self.refused(add(2), -2)
        self.refused(add(MOST), -2)
        self.refused(add(0), -2, (start(),))

    def test_only_to_an_open_one(self):
        begin = (start(), order(), add(0), close(0))
        washed = (*begin, run(0, 0), tick(45))
        self.refused(add(0), -16, begin)
        self.refused(add(0), -16, (*begin, run(0, 0)))
        self.refused(add(0), -16, (*begin, cancel(0)))
        self.refused(add(0), -16, washed)
        self.refused(add(0), -16, (*washed, pack(0)))
        self.refused(add(0), -16, (*washed, pack(0), hand(0)))
        self.refused(add(0), -16, (start(), order(), cancel(0)))

    def test_no_label(self):
        self.refused(add(0, t="W40B3D0I0"), -71)
        self.refused(add(0, t=""), -71)

    def test_need(self):
        for need in range(120):
            wanted = 0 if need in (0, 30, 40, 60, 95) else -22
            self.assertEqual(last(*self.begin, add(0, t="W95B0D0I0", need=need)), [wanted], need)
        self.refused(add(0, need=50), -22)
        self.refused(add(0, need=MOST), -22)

    def test_colour_and_runs(self):
        for colour, runs, wanted in ((0, 0, 0), (9, 0, 0), (9, 1, 0), (0, 1, 0), (10, 0, -22), (0, 2, -22),
                                     (MOST, 0, -22), (0, MOST, -22)):
            self.assertEqual(last(*self.begin, add(0, colour=colour, runs=runs)), [wanted])
        self.refused(add(0, colour=10), -22)
        self.refused(add(0, runs=2), -22)

    def test_weight(self):
        begin = (start(bears=[20000]), order())
        for w, wanted in ((0, -22), (1, 0), (19999, 0), (20000, 0), (20001, -22), (MOST, -22)):
            self.assertEqual(last(*begin, add(0, w=w)), [wanted], w)
        self.refused(add(0, w=0), -22)
        self.refused(add(0, w=20001), -22)

    def test_too_heavy_for_every_machine(self):
        for w, wanted in ((2000, 0), (2001, 0), (4000, 0), (4001, -33), (20000, -33)):
            self.assertEqual(last(*self.begin, add(0, w=w)), [wanted], w)
        self.refused(add(0, w=4001), -33)

    def test_a_broken_machine_counts(self):
        begin = (*self.begin, broken(1, 1))
        self.assertEqual(last(*begin, add(0, w=4000)), [0])
        self.refused(add(0, w=4001), -33, begin)

    def test_what_may_not_be_washed(self):
        for need in (0, 30, 40, 60, 95):
            self.refused(add(0, t="W00B0D0I0", need=need), -33)
        self.refused(add(0, t="W00B2D2I3"), -33)

    def test_hotter_than_it_may_be(self):
        for may in (30, 40, 60, 95):
            for need in (0, 30, 40, 60, 95):
                wanted = 0 if need <= may else -33
                self.assertEqual(last(*self.begin, add(0, t=f"W{may}B0D0I0", need=need)), [wanted])
        self.refused(add(0, t="W60B0D0I0", need=95), -33)

    def test_a_hundred_and_fifty(self):
        things = [add(0, w=1)] * 100 + [add(1, w=1)] * 50
        begin = (*self.begin, *things)
        self.assertEqual(told(*begin)[3:], [[number] for number in range(150)])
        self.refuses(begin, add(0, w=1), -28, LOOKS)
        self.refuses(begin, add(1, w=1), -28, LOOKS)
        # What is called off is there still.
        self.assertEqual(last(*begin, cancel(0), add(1, w=1)), [-28])
        self.assertEqual(last(*begin[:-1], cancel(0), add(1, w=1)), [149])

    def test_what_is_told_first_of_several(self):
        full = (*self.begin, *[add(0, w=1)] * 150)
        closed = (start(bears=[2000]), order(), add(0), close(0))
        self.refused(add(9, t="", need=1, w=MOST), -2)
        self.refused(add(0, t="", need=1, w=MOST), -16, closed)
        self.refused(add(0, t="", need=1, w=MOST), -71)
        self.refused(add(0, t="", w=4001), -71)
        self.refused(add(0, t="W30B0D0I0", need=41, w=4001), -22)
        self.refused(add(0, t="W00B0D0I0", colour=10), -22)
        self.refused(add(0, t="W00B0D0I0", runs=2), -22)
        self.refused(add(0, t="W00B0D0I0", w=0), -22)
        self.refuses(full, add(2), -2, LOOKS)
        self.refuses(full, add(0, t="W"), -71, LOOKS)
        self.refuses(full, add(0, need=29), -22, LOOKS)
        self.refuses(full, add(0, w=4001), -33, LOOKS)
        self.refuses((*full, close(0)), add(0), -16, LOOKS)

    def test_it_is_one_of_the_order(self):
        self.tells([(start(3), 0), (order(), 0), (order(), 1), (add(1, w=500), 0), (bill(0), 0), (bill(1), 15)])


class Close(LineCase):
    def test_closed(self):
        self.tells([(start(), 0), (order(), 0), (add(0), 0), (plan(0), -6), (close(0), 0),
                    (plan(0), planned(1, (0, 0)))])

    def test_it_alone_is_closed(self):
        self.tells([(start(), 0), (order(), 0), (order(), 1), (add(0), 0), (add(1), 1), (close(1), 0),
                    (plan(0), planned(1, (1, 0))), (add(0), 2), (add(1), -16)])

    def test_no_such_order(self):
        self.refuses((start(), order(), add(0)), close(1), -2, LOOKS)
        self.refuses((start(), order(), add(0)), close(MOST), -2, LOOKS)
        self.refuses((start(),), close(0), -2, LOOKS)

    def test_not_open(self):
        begin = (start(), order(), add(0), close(0))
        self.refuses(begin, close(0), -16, LOOKS)
        self.refuses((*begin, run(0, 0)), close(0), -16, LOOKS)
        washed = (*begin, run(0, 0), tick(45))
        self.refuses((*washed, pack(0)), close(0), -16, LOOKS)
        self.refuses((*washed, pack(0), hand(0)), close(0), -16, LOOKS)
        self.refuses((*begin, cancel(0)), close(0), -16, LOOKS)
        # It has nothing either: that it isn't open is told first.
        self.refuses((start(), order(), cancel(0)), close(0), -16, LOOKS)

    def test_it_has_nothing(self):
        self.refuses((start(), order(), order(), add(0)), close(1), -6, (*LOOKS, add(1), close(1)))
