"""Promises 6 and 7: where, label, thing, apart."""

import random

from by_words import chance_thing, words_say_together
from lines import EVERYTHING, MOST, LineCase, add, apart, broken, cancel, close, every_label, hand, label, last, order
from lines import pack, run, start, thing, tick, told, where

# A thing of an order that isn't looked at, so that no thing has the number of its order.
BEGIN = (start(10, [5000, 5000]), order(), order(), order(), add(0), add(2), add(1, w=3000), add(2, w=3000))
CLOSED = (*BEGIN, close(2))
RUNNING = (*CLOSED, run(0, 0))
WASHED = (*RUNNING, tick(65))
PACKED = (*WASHED, pack(2))
GIVEN_OUT = (*PACKED, hand(2))
ANY_HEAT = "W95B0D0I0"
FULL = (start(10, [20000]), order(), *[add(0, w=1)] * 149, add(0, w=7, colour=1, runs=1))


def places(*calls):
    """Where the things 0 to 3 are."""
    return told(*calls, *[where(i) for i in range(4)])[-4:]


class Where(LineCase):
    def test_its_order_is_open(self):
        self.assertEqual(places(*BEGIN), [[0, 0], [0, 2], [0, 1], [0, 2]])

    def test_it_waits(self):
        self.assertEqual(places(*CLOSED), [[0, 0], [0, 2], [0, 1], [0, 2]])

    def test_in_a_machine(self):
        self.assertEqual(places(*RUNNING), [[0, 0], [1, 2], [0, 1], [1, 2]])
        self.assertEqual(places(*RUNNING, tick(64)), [[0, 0], [1, 2], [0, 1], [1, 2]])
        self.assertEqual(places(*CLOSED, run(1, 0)), [[0, 0], [1, 2], [0, 1], [1, 2]])

    def test_washed(self):
        self.assertEqual(places(*WASHED), [[0, 0], [2, 2], [0, 1], [2, 2]])
        # What washed it may break: it's washed.
        self.assertEqual(places(*WASHED, broken(0, 1)), [[0, 0], [2, 2], [0, 1], [2, 2]])

    def test_packed(self):
        self.assertEqual(places(*PACKED), [[0, 0], [3, 2], [0, 1], [3, 2]])

    def test_given_out(self):
        self.assertEqual(places(*GIVEN_OUT), [[0, 0], [4, 2], [0, 1], [4, 2]])

    def test_its_order_is_called_off(self):
        self.assertEqual(places(*BEGIN, cancel(2)), [[0, 0], [4, 2], [0, 1], [4, 2]])
        self.assertEqual(places(*CLOSED, cancel(2)), [[0, 0], [4, 2], [0, 1], [4, 2]])
        self.assertEqual(places(*RUNNING, cancel(2)), [[0, 0], [1, 2], [0, 1], [1, 2]])

    def test_back_to_waiting_when_its_machine_breaks(self):
        self.assertEqual(places(*RUNNING, tick(64), broken(0, 1)), [[0, 0], [0, 2], [0, 1], [0, 2]])
        self.assertEqual(places(*RUNNING, broken(1, 1)), [[0, 0], [1, 2], [0, 1], [1, 2]])
        self.assertEqual(places(*RUNNING, broken(0, 1), tick(65)), [[0, 0], [0, 2], [0, 1], [0, 2]])

    def test_each_thing_of_an_order_for_itself(self):
        begin = (start(1, [1000]), order(), *[add(0)] * 4, close(0), run(0, 2))
        self.assertEqual(places(*begin), [[0, 0], [0, 0], [1, 0], [0, 0]])
        self.assertEqual(places(*begin, tick(65), run(0, 0)), [[1, 0], [0, 0], [2, 0], [0, 0]])

    def test_no_such_thing(self):
        for i in (4, 150, MOST):
            self.refuses(BEGIN, where(i), -2)
        self.refuses((start(), order()), where(0), -2)
        self.refuses((*BEGIN, add(0, w=0)), where(4), -2)

    def test_the_last_thing_there_is(self):
        self.assertEqual(last(*FULL, where(149)), [0, 0])
        self.refuses(FULL, where(150), -2)

    def test_the_last_order_there_is(self):
        self.assertEqual(last(start(), *[order()] * 60, add(59), where(0)), [0, 59])


class Label(LineCase):
    def test_as_it_was_handed_in(self):
        right = [text for text, numbers in every_label() if numbers[0] > 0]
        self.assertEqual(len(right), 432)
        for first in range(0, len(right), 72):
            texts = right[first:first + 72]
            begin = (start(), order(), *[add(0, t=text) for text in texts])
            got = told(*begin, *[label(i) for i in range(len(texts))])[len(begin):]
            for text, found in zip(texts, got):
                self.assertEqual(found, [len(text), *[ord(sign) for sign in text]], text)

    def test_how_many_bytes(self):
        begin = (start(), order(), add(0, t="W30B0D1I2"), add(0, t="W95_B2D0I3"), add(0, t="W40__B1D2I0"))
        self.assertEqual(told(*begin, label(0), label(1), label(2))[-3:],
                         [[9, 87, 51, 48, 66, 48, 68, 49, 73, 50],
                          [10, 87, 57, 53, 95, 66, 50, 68, 48, 73, 51],
                          [11, 87, 52, 48, 95, 95, 66, 49, 68, 50, 73, 48]])

    def test_it_stays_the_same(self):
        wanted = last(*BEGIN, label(3))
        for calls in (CLOSED, RUNNING, WASHED, PACKED, GIVEN_OUT, (*CLOSED, cancel(2)), (*RUNNING, broken(0, 1))):
            self.assertEqual(last(*calls, label(3)), wanted)

    def test_no_such_thing(self):
        for i in (4, 150, MOST):
            self.refuses(BEGIN, label(i), -2)
        self.refuses((start(), order()), label(0), -2)
        self.assertEqual(last(*FULL, label(149))[0], 9)
        self.refuses(FULL, label(150), -2)


class Thing(LineCase):
    def test_its_three_numbers_behind_its_weight(self):
        for w, need, colour, runs in ((1, 0, 0, 0), (20000, 95, 9, 1), (30, 60, 5, 0), (1234, 40, 0, 1), (2, 30, 1, 0)):
            calls = (start(bears=[20000]), order(), add(0, w, "W95B0D0I0", need, colour, runs), thing(0))
            self.assertEqual(last(*calls), [w, need, colour, runs])

    def test_each_thing_its_own(self):
        begin = (start(), order(), order(), add(1, w=100), add(0, w=200, colour=4), add(1, w=300, runs=1))
        self.assertEqual(told(*begin, thing(2), thing(0), thing(1))[-3:],
                         [[300, 0, 0, 1], [100, 0, 0, 0], [200, 0, 4, 0]])

    def test_it_stays_the_same(self):
        for calls in (CLOSED, RUNNING, WASHED, PACKED, GIVEN_OUT, (*CLOSED, cancel(2)), (*RUNNING, broken(0, 1))):
            self.assertEqual(last(*calls, thing(3)), [3000, 0, 0, 0])

    def test_no_such_thing(self):
        for i in (4, 150, MOST):
            self.refuses(BEGIN, thing(i), -2)
        self.refuses((start(), order()), thing(0), -2)
        self.assertEqual(last(*FULL, thing(149)), [7, 0, 1, 1])
        self.refuses(FULL, thing(150), -2)


class Apart(LineCase):
    # Of colour 0 are 0 and 1; of 1 are 2, which runs, and 3; of 2 is 4, which runs. These may be
    # washed at any heat: 5 only at 30 degrees, 7 up to 60; 6 must be at 60 or more, 8 at 95.
    begin = (start(), order(), add(0, t=ANY_HEAT), add(0, t=ANY_HEAT), add(0, t=ANY_HEAT, colour=1, runs=1),
             add(0, t=ANY_HEAT, colour=1), add(0, t=ANY_HEAT, colour=2, runs=1), add(0, t="W30B0D0I0"),
             add(0, t=ANY_HEAT, need=60), add(0, t="W60B0D0I0"), add(0, t=ANY_HEAT, need=95))

    def apart(self, numbers, wanted):
        self.assertEqual(last(*self.begin, apart(*numbers)), wanted, numbers)

    def test_they_go_together(self):
        for numbers in ([0], [2], [0, 1], [1, 0], [0, 3], [2, 3], [3, 2], [0, 1, 5], [3, 0, 1, 5], [3, 6, 3], [6, 7, 0],
                        [5, 7], [6, 8]):
            self.refuses(self.begin, apart(*numbers), -33)

    def test_by_colours(self):
        self.apart([0, 2], [0, 2])
        self.apart([2, 0], [2, 0])
        self.apart([2, 4], [2, 4])
        self.apart([4, 2], [4, 2])
        self.apart([3, 4], [3, 4])
        self.apart([0, 3, 4], [0, 4])

    def test_by_heats(self):
        self.apart([5, 6], [5, 6])
        self.apart([6, 5], [6, 5])
        self.apart([8, 7], [8, 7])
        self.apart([7, 8], [7, 8])
        self.apart([7, 6, 8], [7, 8])

    def test_by_colours_and_by_heats(self):
        self.apart([5, 2, 6], [5, 2])
        self.apart([5, 6, 2], [5, 6])
        self.apart([2, 6], [2, 6])
        begin = (start(), order(), add(0, t="W30B0D0I0", colour=1, runs=1), add(0, t="W95B0D0I0", need=60))
        self.assertEqual(told(*begin, apart(0, 1), apart(1, 0))[-2:], [[0, 1], [1, 0]])

    def test_only_behind_others_that_go_with_all(self):
        self.apart([3, 2, 0], [2, 0])
        self.apart([3, 3, 2, 3, 0, 6], [2, 0])
        self.apart([3, 0, 3, 5, 3, 6], [5, 6])
        self.apart([0, 3, 1, 6, 5], [6, 5])
        self.apart([*[0] * 18, 8, 7], [8, 7])

    def test_the_first_one_in_the_list_and_its_first_one_behind(self):
        self.apart([0, 5, 6, 2, 4], [0, 2])
        self.apart([0, 5, 6, 4, 2], [0, 4])
        # 5 and 6 are both ahead of what doesn't go with 7.
        self.apart([7, 5, 6, 8], [7, 8])
        self.apart([0, 7, 5, 6, 8], [7, 8])
        # What is ahead isn't behind.
        self.apart([5, 0, 6], [5, 6])
        self.apart([6, 0, 5], [6, 5])

    def test_one_that_stands_there_twice(self):
        for numbers in ([2, 2], [0, 0], [6, 6, 6], [0, 1, 0, 1], [5] * 20):
            self.refuses(self.begin, apart(*numbers), -33)
        self.apart([0, 0, 2], [0, 2])
        self.apart([2, 0, 2], [2, 0])
        self.apart([3, 0, 3, 2, 0], [0, 2])

    def test_how_many(self):
        for many in (1, 2, 19, 20):
            self.refuses(self.begin, apart(*[0] * many), -33)
        for many in (0, 21, 22, 30):
            self.refuses(self.begin, apart(*[0] * many), -22)
        self.apart([0] * 19 + [2], [0, 2])
        self.apart([0] * 20 + [2], [-22])
        self.apart([0, 2] * 15, [-22])
        self.apart([0, 2] * 10, [0, 2])

    def test_no_such_thing(self):
        for numbers in ([9], [255], [0, 9], [9, 0], [0, 2, 9], [0] * 19 + [9], [9] * 21, [9] * 30):
            self.refuses(self.begin, apart(*numbers), -22)
        self.refuses((start(), order()), apart(0), -22)
        self.refuses((start(),), apart(), -22)

    def test_the_last_thing_there_is(self):
        self.assertEqual(last(*FULL, apart(149)), [-33])
        self.assertEqual(last(*FULL, apart(148, 149)), [148, 149])
        self.assertEqual(last(*FULL, apart(149, 0, 1)), [149, 0])
        self.refuses(FULL, apart(150), -22)
        self.refuses(FULL, apart(149, 0, 150), -22)

    def test_what_they_weigh_and_whose_they_are_says_nothing(self):
        begin = (start(bears=[1000, 20000]), *[order()] * 20, *[add(o, w=20000) for o in range(20)])
        self.assertEqual(last(*begin, apart(*range(20))), [-33])

    def test_where_they_are_says_nothing(self):
        begin = (start(1, [5000, 5000]), order(), order(), add(0), add(0, w=5000, colour=1, runs=1), add(1), close(0))
        ways = [begin, (*begin, run(0, 1)), (*begin, run(0, 0)), (*begin, cancel(1)), (*begin, cancel(0)),
                (*begin, run(0, 0), tick(65), run(0, 0), tick(130)),
                (*begin, run(0, 0), tick(65), run(0, 0), tick(130), pack(0), hand(0), broken(0, 1))]
        for calls in ways:
            self.assertEqual(told(*calls, apart(0, 2), apart(2, 1, 0), apart(0, 2, 1))[-3:], [[-33], [2, 1], [0, 1]])

    def test_by_the_words(self):
        chance = random.Random(7)
        seen = {True: 0, False: 0}
        for _ in range(150):
            things = [chance_thing(chance, (100,)) for _ in range(8)]
            added = [add(0, one.weight, self.signs(one.label), one.need, one.colour, one.runs) for one in things]
            lists = [[chance.randrange(8) for _ in range(chance.choice((1, 2, 2, 3, 4)))] for _ in range(20)]
            got = told(start(), order(), *added, *[apart(*numbers) for numbers in lists])[-20:]
            for numbers, found in zip(lists, got):
                together = words_say_together([things[i] for i in numbers])
                seen[together] += 1
                pairs = [[i, j] for at, i in enumerate(numbers) for j in numbers[at:]
                         if not words_say_together([things[i], things[j]])]
                self.assertEqual(found, [-33] if together else pairs[0], numbers)
        self.assertGreater(min(seen.values()), 300)

    def signs(self, own):
        return f"W{own.heat}{'_' * own.gentle}B{own.bleach}D{own.dry}I{own.iron}"

    def test_asking_changes_nothing(self):
        for ask in (where(1), label(1), thing(1), apart(0, 1), apart(1, 2)):
            for calls in (BEGIN, CLOSED, RUNNING, WASHED, PACKED, GIVEN_OUT):
                got = told(*calls, ask, *EVERYTHING)
                self.assertEqual(got[len(calls) + 1:], told(*calls, *EVERYTHING)[len(calls):])
