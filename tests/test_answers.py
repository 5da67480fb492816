"""The interface: how calls are handed in and answers given back, and that nothing is kept or changed."""

import random
import unittest

from lines import MOST, add, bill, broken, cancel, close, hand, order, pack, plan, run, start, tick

from washloads.house import House
from washloads.laundry import answer, answers, read_call

WHOLE = (start(10, [5000, 2000]), order(50), order(40), add(0), add(1, w=1500), close(0), close(1), plan(0), run(0, 0),
         tick(65), broken(0, 1), pack(0), hand(0), cancel(1), bill(1))
WHOLE_ANSWERS = [1, 0, 1, 0, 1, 1, 1, 0, 1, 1, 1, 0, 1, 0, 6, 1, 2, 1, 0, 0, 0, 5, 65, 30, 0, 2, 2, 1, 2, 1, 0, 1, 1,
                 1, 100, 1, -17, 1, 150]


def flat(calls):
    return [number for call in calls for number in call]


def picture(value):
    """All that an object holds, down to its numbers."""
    if isinstance(value, list):
        return [picture(part) for part in value]
    if hasattr(value, "__dict__"):
        return {name: picture(part) for name, part in vars(value).items()}
    return value


def chance_label(chance):
    heat = chance.choice(("00", "30", "40", "60", "95", "95", "60"))
    gentle = "_" * chance.choice((0, 0, 1, 2, 2 if heat != "00" else 3))
    return f"W{heat}{gentle}B{chance.randrange(3)}D{chance.randrange(3)}I{chance.choice((0, 1, 2, 3, 3, 4))}"


def chance_call(chance, now):
    few = chance.choice((0, 0, 0, 1, 1, 2, 3, 4, 60, MOST))
    kind = chance.choice((1, 1, 2, 2, 2, 2, 2, 3, 3, 3, 4, 5, 5, 5, 5, 6, 6, 6, 7, 7, 8, 8, 9, 9, 10, 11))
    if kind == 1:
        return order(chance.choice((now, now + 1, now + 100, max(now - 1, 0), 1000000, 1000001)))
    if kind == 2:
        return add(few, chance.choice((0, 1, 900, 2000, 3000, 5001)), chance_label(chance),
                   chance.choice((0, 0, 30, 40, 50, 60)), chance.choice((0, 0, 1, 2, 10)), chance.choice((0, 0, 0, 1, 2)))
    if kind == 5:
        return run(chance.choice((0, 1, 2)), chance.choice((0, 0, 0, 1, 2)))
    if kind == 6:
        return tick(chance.choice((now, now + 20, now + 45, now + 60, max(now - 1, 0))))
    if kind == 7:
        return broken(chance.choice((0, 1, 2)), chance.choice((0, 0, 1, 2)))
    return [kind, few]


class Answers(unittest.TestCase):
    def test_a_whole_line(self):
        self.assertEqual(answers(flat(WHOLE)), WHOLE_ANSWERS)

    def test_a_refusal_stands_alone(self):
        self.assertEqual(answers(start(1001)), [1, -22])
        self.assertEqual(answers(flat([start(), plan(0), plan(1), run(0, 0), run(1, 0)])),
                         [1, 0, 1, -6, 1, -2, 1, -6, 1, -2])

    def test_rows_of_every_length(self):
        for many in range(11):
            self.assertEqual(answers(flat([start(0, [1000] * many), start(0)])), [1, 0 if 1 <= many <= 4 else -22, 1, 0])
        for many in range(201):
            calls = [start(), order(), add(0, t=[95] * many), order()]
            self.assertEqual(answers(flat(calls)), [1, 0, 1, 0, 1, -71, 1, 1])

    def test_five_hundred_calls(self):
        calls = [start()] + [order(), tick(0), bill(0), plan(0)] * 124 + [bill(59)] * 3
        given = answers(flat(calls))
        self.assertEqual(len(calls), 500)
        self.assertEqual(given[:10], [1, 0, 1, 0, 1, 0, 1, 0, 1, -6])
        self.assertEqual(len(given), 1000)

    def test_what_is_handed_in_is_not_changed(self):
        line = flat(WHOLE)
        before = list(line)
        answers(line)
        self.assertEqual(line, before)

    def test_it_is_not_changed_for_a_while_either(self):
        class Still(list):
            def changed(self, *given):
                raise AssertionError("what is handed in is changed")
            append = extend = insert = pop = remove = clear = reverse = sort = changed
            __setitem__ = __delitem__ = __iadd__ = __imul__ = changed

        self.assertEqual(answers(Still(flat(WHOLE))), WHOLE_ANSWERS)

    def test_what_is_given_back_is_new_each_time(self):
        line = flat(WHOLE)
        first = answers(line)
        second = answers(line)
        self.assertIsNot(first, second)
        first.clear()
        self.assertEqual(second, WHOLE_ANSWERS)
        self.assertEqual(answers(line), WHOLE_ANSWERS)

    def test_one_line_knows_nothing_of_another(self):
        self.assertEqual(answers(flat(WHOLE)), WHOLE_ANSWERS)
        # Nothing of the orders, the time or the broken machine is there.
        other = flat([start(1, [1000]), bill(0), plan(0), broken(0, 0), order(0)])
        self.assertEqual(answers(other), [1, 0, 1, -2, 1, -6, 1, -17, 1, 0])
        self.assertEqual(answers(flat(WHOLE)), WHOLE_ANSWERS)
        # A line whose start was refused leaves nothing either.
        self.assertEqual(answers(start(1001)), [1, -22])
        self.assertEqual(answers(other), [1, 0, 1, -2, 1, -6, 1, -17, 1, 0])

    def test_whole_numbers_in_a_list(self):
        given = answers(flat(WHOLE))
        self.assertIs(type(given), list)
        self.assertEqual({type(number) for number in given}, {int})


class Refusals(unittest.TestCase):
    def steps(self, seed):
        """Calls by chance on one object, with what it held before and behind each."""
        chance = random.Random(seed)
        house = House()
        calls = [start(10, [3000, 5000])]
        for _ in range(120):
            before = picture(house)
            found = answer(house, calls[-1][0], read_call(calls[-1], 0)[0])
            yield calls[-1], found, before, picture(house)
            calls.append(chance_call(chance, house.now))

    def test_the_object_is_as_it_was(self):
        seen = set()
        for seed in range(150):
            for call, found, before, behind in self.steps(seed):
                if found[0] < 0:
                    self.assertEqual(len(found), 1, call)
                    self.assertEqual(before, behind, call)
                    seen.add((call[0], found[0]))
        for pair in ((1, -22), (2, -2), (2, -16), (2, -71), (2, -22), (2, -33), (3, -2), (3, -16), (3, -6), (4, -2),
                     (4, -6), (5, -2), (5, -4), (5, -16), (5, -6), (5, -22), (6, -22), (7, -2), (7, -22), (7, -17),
                     (8, -2), (8, -16), (8, -61), (9, -2), (9, -16), (10, -2), (10, -16), (10, -17), (11, -2)):
            self.assertIn(pair, seen)

    def test_what_only_asks_changes_nothing(self):
        for seed in range(30):
            for call, found, before, behind in self.steps(seed):
                if call[0] in (4, 11):
                    self.assertEqual(before, behind, call)
