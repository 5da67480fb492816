"""Promise 10: what holds over the whole program, looked at behind each call of long lists of calls."""

import functools
import random
import unittest

from by_words import fits, words_say_together
from chance import Laundry, Look, lively_call
from lines import LineCase, add, all_there_is, broken, cancel, close, hand, inside, last, late, machine, next_done
from lines import order, pack, plan, planned, run, start, state, tick, till, told, waiting, where

DRUMS = ([3000], [1000, 3000], [2000, 3000, 3000], [3000, 1000, 1000, 2000])
TICK = 6


@functools.cache
def lively_steps():
    """For each of many calls what its laundry's machines bear, the call, what it answered, and a look before and
    behind it."""
    steps = []
    for seed in range(24):
        chance = random.Random(seed)
        laundry = Laundry(7, DRUMS[seed % len(DRUMS)])
        before = Look(laundry)
        for _ in range(200):
            call = lively_call(chance, laundry)
            found = laundry.ask(call)
            behind = Look(laundry)
            steps.append((laundry.bears, call, found, before, behind))
            before = behind
    return steps


def looks(laundry):
    """What is asked of a laundry of that many orders, things and machines."""
    now, orders, things, waits = laundry.ask(all_there_is())
    return [*[where(i) for i in range(things)], *[state(o) for o in range(orders)],
            *[ask(k) for ask in (machine, inside, plan) for k in range(len(laundry.bears))],
            waiting(), late(), next_done(), till(), all_there_is()]


class AtEachMoment(unittest.TestCase):
    def each_look(self, check):
        for bears, call, found, before, behind in lively_steps():
            check(bears, behind)

    def test_each_thing_is_in_one_machine_or_in_none_as_it_is_told(self):
        seen = {place: 0 for place in range(5)}

        def check(bears, look):
            contents = [i for inside_one in look.inside for i in inside_one[1:]]
            self.assertEqual(len(contents), len(set(contents)))
            self.assertEqual(sorted(contents), look.at(1))
            self.assertEqual([len(inside_one) - 1 for inside_one in look.inside], [one[0] for one in look.inside])
            for place, whose in look.places:
                seen[place] += 1

        self.each_look(check)
        self.assertGreater(min(seen.values()), 1000)

    def test_what_is_in_a_machine_bears_its_program_goes_together_and_is_not_too_heavy(self):
        shared = []

        def check(bears, look):
            for k, found in enumerate(look.machines):
                things = [look.things[i] for i in look.inside[k][1:]]
                self.assertEqual(found[0] == 1, len(things) > 0)
                if found[0] == 1:
                    self.assertTrue(all(fits(found[2:], one) for one in things))
                    self.assertTrue(words_say_together(things))
                    self.assertLessEqual(sum(one.weight for one in things), bears[k])
                    shared.append(len(things) > 1)

        self.each_look(check)
        self.assertGreater(shared.count(True), 1000)

    def test_none_is_broken_that_has_anything(self):
        seen = []

        def check(bears, look):
            for found, contents in zip(look.machines, look.inside):
                if found[0] == 2:
                    self.assertEqual(contents, [0])
                    seen.append(found)

        self.each_look(check)
        self.assertGreater(len(seen), 1000)

    def test_a_thing_is_where_its_order_s_state_says(self):
        places = {0: (0,), 1: (0, 1, 2), 2: (3,), 3: (4,), 4: (4,)}

        def check(bears, look):
            for o, (found, due, many, washed) in enumerate(look.states):
                own = [look.places[i][0] for i in look.of_order(o)]
                self.assertLessEqual(set(own), set(places[found]))
                self.assertEqual([many, washed], [len(own), own.count(2)])

        self.each_look(check)

    def test_the_till_has_what_was_on_the_bills(self):
        greatest = []

        def check(bears, look):
            paid = [look.bills[o] for o, found in enumerate(look.states) if found[0] == 3]
            self.assertEqual(look.till, sum(paid))
            greatest.append(len(paid))
            for o, found in enumerate(look.bills):
                grams = sum(look.things[i].weight for i in look.of_order(o))
                self.assertEqual(found, 7 * -(-grams // 100))

        self.each_look(check)
        self.assertGreater(max(greatest), 3)

    def test_who_waits_and_in_which_order(self):
        def check(bears, look):
            waits = [i for i in look.at(0) if look.states[look.places[i][1]][0] == 1]
            waits.sort(key=lambda i: (look.states[look.places[i][1]][1], i))
            self.assertEqual(look.waiting, [len(waits), *waits])
            self.assertEqual(look.how_many_wait, len(waits))

        self.each_look(check)

    def test_who_is_late_and_who_is_next(self):
        def check(bears, look):
            late_ones = [o for o, found in enumerate(look.states) if found[0] < 3 and found[1] < look.now]
            self.assertEqual(look.late, [len(late_ones), *late_ones])
            moments = [found[1] for found in look.machines if found[0] == 1]
            self.assertEqual(look.next_done, [min(moments)] if moments else [-6])
            self.assertTrue(all(moment > look.now for moment in moments))

        self.each_look(check)

    def test_who_waits_first_of_those_that_a_machine_bears_is_in_its_first_load(self):
        seen = []

        def check(bears, look):
            for k, most in enumerate(bears):
                borne = [i for i in look.waiting[1:] if look.things[i].weight <= most]
                found = look.plans[k]
                if not borne:
                    self.assertEqual(found, [-6])
                    continue
                self.assertEqual(found[2::2], borne[:8])
                self.assertEqual(found[3], 0)
                seen.append(len(borne) > 8)

        self.each_look(check)
        self.assertGreater(seen.count(True), 10)

    def test_the_first_load_runs_with_who_waits_first(self):
        ran = 0
        for bears, call, found, before, behind in lively_steps():
            if call[0] == 5 and call[2] == 0 and found[0] >= 0:
                borne = [i for i in before.waiting[1:] if before.things[i].weight <= bears[call[1]]]
                self.assertEqual(behind.inside[call[1]][1], borne[0])
                ran += 1
        self.assertGreater(ran, 100)


class FromOneMomentToTheNext(unittest.TestCase):
    def test_a_thing_is_washed_only_as_its_program_ends(self):
        washed = 0
        for bears, call, found, before, behind in lively_steps():
            over = []
            if call[0] == TICK and found[0] >= 0:
                over = [i for k, one in enumerate(before.machines) if one[0] == 1 and one[1] <= call[1]
                        for i in before.inside[k][1:]]
                self.assertEqual(found, [len(over)])
            new = [i for i in behind.at(2) if before.places[i][0] != 2]
            self.assertEqual(new, sorted(over))
            washed += len(new)
        self.assertGreater(washed, 200)

    def test_only_what_is_all_washed_is_packed_and_only_what_is_packed_is_given_out(self):
        changes = {}
        for bears, call, found, before, behind in lively_steps():
            for o, (old, new) in enumerate(zip(before.states, behind.states)):
                if old[0] != new[0]:
                    changes[old[0], new[0]] = changes.get((old[0], new[0]), 0) + 1
                    if new[0] == 2:
                        self.assertTrue(all(before.places[i][0] == 2 for i in before.of_order(o)))
        self.assertEqual(sorted(changes), [(0, 1), (0, 4), (1, 2), (1, 4), (2, 3)])
        self.assertGreater(min(changes.values()), 3)

    def test_nothing_is_lost_or_changed(self):
        for bears, call, found, before, behind in lively_steps():
            old = before.signs()
            self.assertEqual(behind.signs()[:len(old)], old)
            self.assertEqual(len(behind.things) - len(old), int(call[0] == 2 and found[0] >= 0))
            self.assertEqual([one[1] for one in behind.states][:len(before.states)],
                             [one[1] for one in before.states])

    def test_time_and_the_till_never_go_back(self):
        for bears, call, found, before, behind in lively_steps():
            self.assertEqual(behind.now, call[1] if call[0] == TICK and found[0] >= 0 else before.now)
            self.assertEqual(behind.till - before.till, found[0] if call[0] == 9 and found[0] >= 0 else 0)


class OverTheWholeLine(unittest.TestCase):
    def test_in_one_step_or_in_two_time_is_the_same(self):
        split = 0
        for seed in range(60):
            chance = random.Random(seed)
            one = Laundry(7, DRUMS[seed % len(DRUMS)])
            two = Laundry(7, DRUMS[seed % len(DRUMS)])
            for _ in range(150):
                call = lively_call(chance, one)
                now = one.ask(all_there_is())[0]
                found = one.ask(call)
                if call[0] == TICK and found[0] >= 0:
                    first = two.ask(tick(chance.randint(now, call[1])))[0]
                    second = two.ask(call)[0]
                    self.assertEqual(first + second, found[0])
                    split += first > 0 and second > 0
                else:
                    self.assertEqual(two.ask(call), found)
                for ask in looks(one):
                    self.assertEqual(two.ask(ask), one.ask(ask), ask)
        self.assertGreater(split, 5)

    def test_minute_by_minute_or_at_once(self):
        for seed in range(8):
            chance = random.Random(seed)
            one = Laundry(7, [2000, 3000])
            two = Laundry(7, [2000, 3000])
            for _ in range(100):
                call = lively_call(chance, one)
                now = one.ask(all_there_is())[0]
                found = one.ask(call)
                if call[0] == TICK and found[0] >= 0:
                    steps = [two.ask(tick(t))[0] for t in range(now, call[1] + 1)]
                    self.assertEqual(sum(steps), found[0])
                else:
                    self.assertEqual(two.ask(call), found)
                for ask in looks(one):
                    self.assertEqual(two.ask(ask), one.ask(ask), ask)

    def test_whatever_waits_can_be_washed(self):
        for seed in range(60):
            chance = random.Random(seed)
            laundry = Laundry(7, DRUMS[seed % len(DRUMS)])
            for _ in range(120):
                laundry.ask(lively_call(chance, laundry))
            laundry.finish()
            look = Look(laundry)
            self.assertEqual(look.waiting, [0])
            self.assertEqual(look.at(0), [])
            self.assertEqual(look.at(1), [])
            # What isn't called off is given out, but for orders that have nothing.
            for o, found in enumerate(look.states):
                self.assertIn(found[0], (3, 4) if found[2] > 0 else (0, 4))
            self.assertEqual(look.till, sum(look.bills[o] for o, found in enumerate(look.states) if found[0] == 3))

    def test_call_by_call_it_is_as_in_one_line(self):
        for seed in range(20):
            chance = random.Random(seed)
            laundry = Laundry(7, DRUMS[seed % len(DRUMS)])
            for _ in range(150):
                laundry.ask(lively_call(chance, laundry))
            laundry.finish()
            Look(laundry)
            self.assertTrue(laundry.is_as_in_one_line())
            # And once more, though another line was between.
            self.assertTrue(laundry.is_as_in_one_line())


class Corners(LineCase):
    def test_a_label_that_may_not_be_washed(self):
        self.tells([(start(), 0), (order(), 0), (add(0, t="W00B2D0I3"), -33), (where(0), -2), (close(0), -6),
                    (all_there_is(), [0, 1, 0, 0])])

    def test_a_thing_as_heavy_as_the_greatest_drum_bears(self):
        self.tells([(start(2, [1000, 20000]), 0), (order(), 0), (add(0, w=20000), 0), (add(0, w=1), 1), (close(0), 0),
                    (waiting(), [2, 0, 1]), (plan(0), planned(1, (1, 0))), (run(1, 0), [65, 30, 0, 2, 2]),
                    (inside(1), [1, 0]), (run(0, 0), [65, 30, 0, 2, 2]), (tick(65), 2), (state(0), [1, 100, 2, 2]),
                    (pack(0), 2), (hand(0), 402), (till(), 402)])

    def test_a_machine_that_breaks_as_it_is_done(self):
        begin = [(start(), 0), (order(), 0), (add(0), 0), (close(0), 0), (run(0, 0), [65, 30, 0, 2, 2])]
        self.tells([*begin, (tick(65), 1), (broken(0, 1), 0), (where(0), [2, 0]), (machine(0), 2), (next_done(), -6)])
        self.tells([*begin, (tick(64), 0), (broken(0, 1), 1), (tick(65), 0), (where(0), [0, 0]), (machine(0), 2)])

    def test_two_machines_done_at_one_moment(self):
        self.tells([(start(1, [1000, 1000]), 0), (order(), 0), (add(0), 0), (add(0), 1), (close(0), 0),
                    (run(1, 1), [65, 30, 0, 2, 2]), (run(0, 0), [65, 30, 0, 2, 2]), (next_done(), 65), (tick(65), 2),
                    (next_done(), -6), (state(0), [1, 100, 2, 2]), (machine(0), 0), (machine(1), 0)])

    def test_orders_due_alike(self):
        self.tells([(start(1, [20000]), 0), (order(5), 0), (order(5), 1), (add(1), 0), (add(0), 1), (add(1), 2),
                    (close(1), 0), (close(0), 0), (waiting(), [3, 0, 1, 2]), (run(0, 0), [65, 30, 0, 2, 2]),
                    (inside(0), [3, 0, 1, 2]), (tick(5), 0), (late(), [0]), (tick(6), 0), (late(), [2, 0, 1])])

    def test_nine_that_wait(self):
        begin = (start(), order(), *[add(0, w=1)] * 9, close(0))
        self.assertEqual(told(*begin, waiting(), run(0, 0), inside(0), waiting())[-4:],
                         [[9, *range(9)], [65, 30, 0, 2, 2], [8, *range(8)], [1, 8]])

    def test_a_load_whose_colour_runs(self):
        self.tells([(start(), 0), (order(), 0), (add(0, colour=1, runs=1), 0), (add(0), 1), (add(0, colour=1), 2),
                    (close(0), 0), (run(0, 0), [65, 30, 0, 2, 2]), (inside(0), [2, 0, 2]), (waiting(), [1, 1])])

    def test_called_off_before_it_is_washed(self):
        self.tells([(start(), 0), (order(), 0), (order(), 1), (add(0), 0), (add(1), 1), (close(0), 0), (close(1), 0),
                    (cancel(0), 1), (where(0), [4, 0]), (waiting(), [1, 1]), (run(0, 0), [65, 30, 0, 2, 2]),
                    (inside(0), [1, 1]), (cancel(1), -17), (tick(65), 1), (state(0), [4, 100, 1, 0])])

    def test_given_out_late(self):
        begin = (start(5), order(9), add(0), close(0), run(0, 0), tick(65), pack(0), tick(70))
        self.assertEqual(told(*begin, late(), hand(0), late(), till(), where(0))[-5:],
                         [[1, 0], [50], [0], [50], [4, 0]])
        self.assertEqual(last(*begin, hand(0), state(0)), [3, 9, 1, 0])
