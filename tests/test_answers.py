"""The interface: how calls are handed in and answers given back, and that nothing is kept or changed."""

import random
import unittest

from chance import ASKING, chance_call
from lines import EVERYTHING, add, all_there_is, apart, bill, broken, cancel, close, flat, hand, inside, label, late
from lines import machine, next_done, order, pack, plan, run, start, state, thing, tick, till, told, waiting, where

from washloads.house import House
from washloads.laundry import answer, answers, read_call

WHOLE = (start(10, [5000, 2000]), order(50), order(40), add(0), add(1, w=1500), close(0), close(1), plan(0), run(0, 0),
         tick(65), broken(0, 1), pack(0), hand(0), cancel(1), bill(1), order(90), add(2, colour=3, runs=1), close(2),
         where(1), label(1), thing(2), apart(1, 0, 2), waiting(), run(1, 0), machine(1), inside(1), state(1), late(),
         next_done(), till(), all_there_is())
WHOLE_ANSWERS = [1, 0, 1, 0, 1, 1, 1, 0, 1, 1, 1, 0, 1, 0, 6, 1, 2, 1, 0, 0, 0, 5, 65, 30, 0, 2, 2, 1, 2, 1, 0, 1, 1,
                 1, 100, 1, -17, 1, 150, 1, 2, 1, 2, 1, 0, 2, 2, 1, 10, 9, 87, 52, 48, 66, 50, 68, 50, 73, 51,
                 4, 1000, 0, 3, 1, 2, 1, 2, 2, 1, 2, 5, 65, 30, 0, 2, 2, 6, 1, 130, 30, 0, 2, 2, 2, 1, 2,
                 4, 1, 40, 1, 1, 2, 1, 1, 1, 130, 1, 100, 4, 65, 3, 3, 0]


def picture(value):
    """All that an object holds, down to its numbers."""
    if isinstance(value, list):
        return [picture(part) for part in value]
    if hasattr(value, "__dict__"):
        return {name: picture(part) for name, part in vars(value).items()}
    return value


class Answers(unittest.TestCase):
    def test_a_whole_line(self):
        self.assertEqual(answers(flat(WHOLE)), WHOLE_ANSWERS)

    def test_a_refusal_stands_alone(self):
        self.assertEqual(answers(start(1001)), [1, -22])
        self.assertEqual(answers(flat([start(), plan(0), plan(1), run(0, 0), run(1, 0)])),
                         [1, 0, 1, -6, 1, -2, 1, -6, 1, -2])
        asked = [where(0), label(0), thing(0), apart(0), machine(1), inside(1), state(0), next_done()]
        self.assertEqual(answers(flat([start(), *asked])),
                         [1, 0, 1, -2, 1, -2, 1, -2, 1, -22, 1, -2, 1, -2, 1, -2, 1, -6])

    def test_rows_of_every_length(self):
        for many in range(11):
            wanted = 0 if 1 <= many <= 4 else -22
            self.assertEqual(answers(flat([start(0, [1000] * many), start(0)])), [1, wanted, 1, 0])
        for many in range(201):
            calls = [start(), order(), add(0, t=[95] * many), order()]
            self.assertEqual(answers(flat(calls)), [1, 0, 1, 0, 1, -71, 1, 1])
        for many in range(31):
            calls = [start(), order(), add(0), apart(*[0] * many), order()]
            self.assertEqual(answers(flat(calls)), [1, 0, 1, 0, 1, 0, 1, -33 if 1 <= many <= 20 else -22, 1, 1])

    def test_five_hundred_calls(self):
        calls = [start()] + [order(), tick(0), bill(0), plan(0)] * 124 + [bill(59)] * 3
        given = answers(flat(calls))
        self.assertEqual(len(calls), 500)
        self.assertEqual(given[:10], [1, 0, 1, 0, 1, 0, 1, 0, 1, -6])
        self.assertEqual(len(given), 1000)

    def test_five_hundred_calls_that_answer_much(self):
        calls = [start(), order(), *[add(0, w=1)] * 150, close(0), *[waiting()] * 346, tick(0)]
        given = answers(flat(calls))
        self.assertEqual(len(calls), 500)
        self.assertEqual(given[2 * 153:], [151, 150, *range(150)] * 346 + [1, 0])

    def test_what_is_handed_in_is_not_changed(self):
        line = flat(WHOLE)
        before = list(line)
        answers(line)
        self.assertEqual(line, before)

    def test_it_is_not_changed_for_a_while_either(self):
        class Still(list):
            def changed(self, *given):
                raise AssertionError("what is handed in is changed")
            append = extend = insert = pop = remove = clear = reverse = sort = changed
            __setitem__ = __delitem__ = __iadd__ = __imul__ = changed

        self.assertEqual(answers(Still(flat(WHOLE))), WHOLE_ANSWERS)

    def test_what_is_given_back_is_new_each_time(self):
        line = flat(WHOLE)
        first = answers(line)
        second = answers(line)
        self.assertIsNot(first, second)
        first.clear()
        self.assertEqual(second, WHOLE_ANSWERS)
        self.assertEqual(answers(line), WHOLE_ANSWERS)

    def test_one_line_knows_nothing_of_another(self):
        self.assertEqual(answers(flat(WHOLE)), WHOLE_ANSWERS)
        # Nothing of the orders, the time or the broken machine is there.
        other = flat([start(1, [1000]), bill(0), plan(0), broken(0, 0), where(0), machine(0), till(), all_there_is(),
                      order(0)])
        others = [1, 0, 1, -2, 1, -6, 1, -17, 1, -2, 1, 0, 1, 0, 4, 0, 0, 0, 0, 1, 0]
        self.assertEqual(answers(other), others)
        self.assertEqual(answers(flat(WHOLE)), WHOLE_ANSWERS)
        # A line whose start was refused leaves nothing either.
        self.assertEqual(answers(start(1001)), [1, -22])
        self.assertEqual(answers(other), others)

    def test_whole_numbers_in_a_list(self):
        given = answers(flat(WHOLE))
        self.assertIs(type(given), list)
        self.assertEqual({type(number) for number in given}, {int})
        self.assertEqual({type(number) for call in told(*WHOLE, *EVERYTHING) for number in call}, {int})


class Refusals(unittest.TestCase):
    def steps(self, seed):
        """Calls by chance on one object, with what it held before and behind each."""
        chance = random.Random(seed)
        house = House()
        calls = [start(10, [3000, 5000])]
        for _ in range(120):
            before = picture(house)
            found = answer(house, calls[-1][0], read_call(calls[-1], 0)[0])
            yield calls[-1], found, before, picture(house)
            calls.append(chance_call(chance, house.now))

    def test_the_object_is_as_it_was(self):
        seen = set()
        for seed in range(150):
            for call, found, before, behind in self.steps(seed):
                if found[0] < 0:
                    self.assertEqual(len(found), 1, call)
                    self.assertEqual(before, behind, call)
                    seen.add((call[0], found[0]))
        for pair in ((1, -22), (2, -2), (2, -16), (2, -71), (2, -22), (2, -33), (3, -2), (3, -16), (3, -6), (4, -2),
                     (4, -6), (5, -2), (5, -4), (5, -16), (5, -6), (5, -22), (6, -22), (7, -2), (7, -22), (7, -17),
                     (8, -2), (8, -16), (8, -61), (9, -2), (9, -16), (10, -2), (10, -16), (10, -17), (11, -2),
                     (12, -2), (13, -2), (14, -2), (15, -22), (15, -33), (17, -2), (18, -2), (19, -2), (21, -6)):
            self.assertIn(pair, seen)

    def test_what_only_asks_changes_nothing(self):
        seen = set()
        for seed in range(60):
            for call, found, before, behind in self.steps(seed):
                if call[0] in ASKING:
                    self.assertEqual(before, behind, call)
                    seen.add(call[0])
        self.assertEqual(seen, set(ASKING))
