"""Promise 3: the fewest loads, and the first way among so many, where it isn't the first one to come to mind."""

import random
import unittest

from by_words import chance_thing, fitting_all, words_say_mildest, words_say_together
from lines import LineCase, add, close, last, order, plan, start

from washloads.loads import first_way
from washloads.things import go_together, is_load, mildest_program


def every_way(many):
    """All ways to number loads in the order in which they come first."""
    ways = [[]]
    for _ in range(many):
        ways = [way + [load] for way in ways for load in range(max(way, default=-1) + 2)]
    return ways


def words_say_first_way(things, drum):
    found = []
    for way in every_way(len(things)):
        loads = [[thing for thing, load in zip(things, way) if load == number] for number in set(way)]
        if all(sum(thing.weight for thing in load) <= drum and words_say_together(load) for load in loads):
            found.append((len(loads), way))
    return min(found)[1]


def one_by_one(things, drum):
    """Each thing into the first load with room: what the plan is not."""
    loads = []
    way = []
    for thing in things:
        room = [number for number, load in enumerate(loads) if is_load(load + [thing], drum)]
        if not room:
            room = [len(loads)]
            loads.append([])
        loads[room[0]].append(thing)
        way.append(room[0])
    return way


class FewestLoads(LineCase):
    def way(self, drum, *things):
        begin = (start(bears=[drum]), order(), *things, close(0))
        told = last(*begin, plan(0))
        self.assertEqual(told[0], max(told[3::2]) + 1)
        self.assertEqual(told[1], len(things))
        self.assertEqual(told[2::2], list(range(len(things))))
        return told[3::2]

    def weights(self, drum, *weights):
        return self.way(drum, *[add(0, w=w) for w in weights])

    def test_fewer_than_one_by_one(self):
        # One by one it's 400 and 300, then 600, then 700: three loads.
        self.assertEqual(self.weights(1000, 400, 300, 600, 700), [0, 1, 0, 1])
        self.assertEqual(self.weights(1000, 300, 400, 700, 600), [0, 1, 0, 1])
        self.assertEqual(self.weights(1000, 200, 200, 400, 400, 800, 800), [0, 1, 0, 0, 1, 2])

    def test_fewer_than_the_heaviest_first(self):
        # The heaviest first, each into the first load with room, it's a load more: 500 and 400, then 400 ..
        self.assertEqual(self.weights(1000, 400, 200, 200, 400, 300, 500), [0, 0, 1, 0, 1, 1])
        self.assertEqual(self.weights(1000, 500, 200, 400, 400, 200, 300), [0, 0, 1, 1, 1, 0])
        self.assertEqual(self.weights(1000, 200, 300, 600, 700, 200, 300, 500, 200), [0, 0, 1, 2, 1, 2, 0, 1])

    def test_the_first_way_among_so_many(self):
        # Two loads also are 0 1 1 and 0 0 1.
        self.assertEqual(self.weights(1000, 500, 400, 500), [0, 0, 1])
        self.assertEqual(self.weights(1000, 600, 500, 400), [0, 1, 0])
        self.assertEqual(self.weights(1000, 100, 100, 900, 900), [0, 1, 0, 1])
        self.assertEqual(self.weights(1000, 100, 800, 100, 900), [0, 0, 0, 1])
        # The third goes into the first load, though that fills it up no better.
        self.assertEqual(self.weights(1000, 400, 700, 300, 500), [0, 1, 1, 0])
        self.assertEqual(self.weights(1000, 400, 700, 300), [0, 1, 0])

    def test_loads_are_numbered_as_they_come_first(self):
        self.assertEqual(self.weights(1000, 900, 800, 700, 600), [0, 1, 2, 3])
        self.assertEqual(self.weights(1000, 900, 800, 100, 200), [0, 1, 0, 1])

    def test_eight_loads(self):
        self.assertEqual(self.weights(1000, *[501] * 8), list(range(8)))
        self.assertEqual(self.weights(1000, *[500] * 8), [0, 0, 1, 1, 2, 2, 3, 3])

    def test_things_that_do_not_go_together(self):
        red, white, hot, wool = (add(0, w=100, colour=1, runs=1), add(0, w=100), add(0, w=100, t="W95B0D0I0", need=95),
                                 add(0, w=100, t="W30__B0D0I0"))
        self.assertEqual(self.way(1000, red, white, hot, wool), [0, 1, 2, 1])
        self.assertEqual(self.way(1000, white, red, white, red), [0, 1, 0, 1])

    def test_one_that_goes_with_both_of_two_that_do_not(self):
        cool, hot = add(0, w=100, t="W30B0D0I0"), add(0, w=100, t="W95B0D0I0", need=40)
        both = add(0, w=100, t="W95B0D0I0")
        self.assertEqual(self.way(1000, cool, hot, both), [0, 1, 0])
        self.assertEqual(self.way(1000, both, cool, hot), [0, 0, 1])
        self.assertEqual(self.way(1000, both, hot, cool), [0, 0, 1])

    def test_laid_into_the_later_load_so_that_there_are_fewer(self):
        # What goes with both must leave the room in the first load to what goes with that alone.
        cool, hot = add(0, w=500, t="W30B0D0I0"), add(0, w=100, t="W95B0D0I0", need=40)
        both = add(0, w=500, t="W95B0D0I0")
        self.assertEqual(self.way(1000, cool, hot, both, cool), [0, 1, 1, 0])
        self.assertEqual(self.way(1000, both, cool, hot, cool), [0, 1, 0, 1])

    def test_they_go_together_but_weigh_too_much(self):
        self.assertEqual(self.weights(1000, 600, 600), [0, 1])
        red = [add(0, w=600, colour=1, runs=1)] * 2
        self.assertEqual(self.way(1000, *red), [0, 1])
        self.assertEqual(self.way(1200, *red), [0, 0])

    def test_two_by_two_light_enough_but_not_three(self):
        self.assertEqual(self.weights(1000, 400, 400, 400), [0, 0, 1])
        self.assertEqual(self.weights(1200, 400, 400, 400), [0, 0, 0])


class AgainstTheWords(unittest.TestCase):
    def test_ways(self):
        chance = random.Random(1)
        other = 0
        for round_number in range(300):
            many = chance.choice((1, 2, 3, 4, 5, 6, 6, 6))
            weights = [range(1, 1001), (200, 300, 400, 500, 600, 700), range(200, 501, 50)][round_number % 3]
            things = [chance_thing(chance, weights, round_number % 2 == 0) for _ in range(many)]
            way = first_way(things, 1000)
            self.assertEqual(way, words_say_first_way(things, 1000))
            other += way != one_by_one(things, 1000)
        # Enough of them are such as isn't found by laying one behind another.
        self.assertGreater(other, 10)

    def test_ways_of_eight(self):
        chance = random.Random(2)
        for _ in range(6):
            things = [chance_thing(chance, (100, 200, 300, 400, 500, 600)) for _ in range(8)]
            self.assertEqual(first_way(things, 1000), words_say_first_way(things, 1000))

    def test_going_together_and_the_mildest_program(self):
        chance = random.Random(3)
        seen = {True: 0, False: 0}
        for _ in range(1500):
            things = [chance_thing(chance, (100,)) for _ in range(chance.randint(1, 4))]
            together = words_say_together(things)
            seen[together] += 1
            self.assertEqual(go_together(things), together)
            if fitting_all(things):
                self.assertEqual(mildest_program(things), words_say_mildest(things))
                self.assertIn(mildest_program(things), fitting_all(things))
            else:
                self.assertIsNone(mildest_program(things))
        self.assertGreater(min(seen.values()), 100)
