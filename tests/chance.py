"""Calls by chance, and a laundry that is handed its calls one by one and may be asked about all it holds."""

from by_words import told_thing
from lines import MOST, add, all_there_is, apart, bill, broken, cancel, close, flat, hand, inside, label, late, machine
from lines import next_done, order, pack, plan, run, start, state, thing, tick, till, waiting, where

from washloads.house import House
from washloads.laundry import answer, answers, read_call

# The state in which an order must be for that call.
STATE_FOR = {2: 0, 3: 0, 8: 1, 9: 2, 10: 1}
ASKING = (4, 11, 12, 13, 14, 15, 16, 17, 18, 19, 20, 21, 22, 23)


def chance_label(chance):
    heat = chance.choice(("00", "30", "40", "60", "95", "95", "60"))
    gentle = "_" * chance.choice((0, 0, 1, 2, 2 if heat != "00" else 3))
    return f"W{heat}{gentle}B{chance.randrange(3)}D{chance.randrange(3)}I{chance.choice((0, 1, 2, 3, 3, 4))}"


def chance_call(chance, now):
    """Whatever can be called, right and wrong."""
    few = chance.choice((0, 0, 0, 1, 1, 2, 3, 4, 60, MOST))
    kind = chance.choice((1, 1, 2, 2, 2, 2, 2, 3, 3, 3, 4, 5, 5, 5, 5, 6, 6, 6, 7, 7, 8, 8, 9, 9, 10, *ASKING))
    if kind == 1:
        return order(chance.choice((now, now + 1, now + 100, max(now - 1, 0), 1000000, 1000001)))
    if kind == 2:
        need = chance.choice((0, 0, 30, 40, 50, 60))
        return add(few, chance.choice((0, 1, 900, 2000, 3000, 5001)), chance_label(chance), need,
                   chance.choice((0, 0, 1, 2, 10)), chance.choice((0, 0, 0, 1, 2)))
    if kind == 5:
        return run(chance.choice((0, 1, 2)), chance.choice((0, 0, 0, 1, 2)))
    if kind == 6:
        return tick(chance.choice((now, now + 20, now + 45, now + 60, max(now - 1, 0))))
    if kind == 7:
        return broken(chance.choice((0, 1, 2)), chance.choice((0, 0, 1, 2)))
    if kind == 15:
        return apart(*[chance.randrange(6) for _ in range(chance.choice((0, 1, 2, 3, 5, 21)))])
    return [kind, few] if kind < 15 or kind in (17, 18, 19) else [kind]


def lively_add(chance, o):
    heat = chance.choice((30, 40, 60, 95))
    need = chance.choice([need for need in (0, 0, 30, 40, 60, 95) if need <= heat])
    t = f"W{heat}{'_' * chance.randrange(3)}B{chance.randrange(3)}D{chance.randrange(3)}I{chance.randrange(4)}"
    return add(o, chance.choice((1, 300, 450, 999, 1000, 1001, 2000, 3000)), t, need, chance.randrange(3),
               int(chance.random() < 0.3))


def lively_order(chance, kind, laundry):
    """An order, most often one in the state that the call asks for."""
    orders = laundry.ask(all_there_is())[1]
    states = [laundry.ask(state(o)) for o in range(orders)]
    likely = [o for o, (found, due, many, washed) in enumerate(states)
              if found == STATE_FOR[kind] and (kind != 8 or many == washed)]
    return chance.choice(likely) if likely and chance.random() < 0.9 else chance.randrange(orders + 1)


def lively_call(chance, laundry):
    """What a laundry is likely to be told, so that much of it is washed and given out."""
    now = laundry.ask(all_there_is())[0]
    done = laundry.ask(next_done())[0]
    kind = chance.choice((1, *[2] * 9, 3, 3, *[5] * 6, *[6] * 4, 7, *[8] * 3, *[9] * 2, chance.choice((8, 10, 10))))
    if kind == 1:
        return order(now + chance.choice((0, 10, 50, 50, 200)))
    if kind == 2:
        return lively_add(chance, lively_order(chance, kind, laundry))
    if kind == 5:
        return run(chance.randrange(len(laundry.bears)), chance.choice((0, 0, 0, 0, 1, 2)))
    if kind == 6:
        done = max(done, now)
        return tick(chance.choice((now + 7, now + 70, now + 150, done, done + 1, max(done - 1, now))))
    if kind == 7:
        return broken(chance.randrange(len(laundry.bears)), chance.choice((0, 0, 0, 1)))
    return [kind, lively_order(chance, kind, laundry)]


class Laundry:
    """Calls handed to one object, and their answers."""

    def __init__(self, price, bears):
        self.house = House()
        self.bears = bears
        self.calls = []
        self.answered = []
        self.ask(start(price, bears))

    def ask(self, call):
        found = answer(self.house, call[0], read_call(call, 0)[0])
        self.calls.append(call)
        self.answered.append(found)
        return found

    def is_as_in_one_line(self):
        return answers(flat(self.calls)) == flat([[len(found), *found] for found in self.answered])

    def finish(self):
        """Whatever there is is closed and washed, and packed and given out."""
        for k in range(len(self.bears)):
            self.ask(broken(k, 0))
        orders = self.ask(all_there_is())[1]
        for o in range(orders):
            self.ask(close(o))
        # A turn washes a thing at least: so many are enough, and there's an end to it if the program is wrong.
        for _ in range(self.ask(all_there_is())[2] + 1):
            for k in range(len(self.bears)):
                self.ask(run(k, 0))
            if self.ask(next_done())[0] >= 0:
                self.ask(tick(self.ask(next_done())[0]))
        for o in range(orders):
            self.ask(pack(o))
            self.ask(hand(o))


class Look:
    """All that a laundry answers at one moment."""

    def __init__(self, laundry):
        ask = laundry.ask
        self.now, orders, things, self.how_many_wait = ask(all_there_is())
        self.places = [ask(where(i)) for i in range(things)]
        self.things = [told_thing(ask(thing(i)), ask(label(i))) for i in range(things)]
        self.states = [ask(state(o)) for o in range(orders)]
        self.bills = [ask(bill(o))[0] for o in range(orders)]
        self.machines = [ask(machine(k)) for k in range(len(laundry.bears))]
        self.inside = [ask(inside(k)) for k in range(len(laundry.bears))]
        self.waiting = ask(waiting())
        self.plans = [ask(plan(k)) for k in range(len(laundry.bears))]
        self.late = ask(late())
        self.next_done = ask(next_done())
        self.till = ask(till())[0]

    def of_order(self, o):
        return [i for i, (place, whose) in enumerate(self.places) if whose == o]

    def at(self, place):
        return [i for i, (found, whose) in enumerate(self.places) if found == place]

    def signs(self):
        """What a thing is, which nothing may change."""
        return [(whose, one.weight, one.need, one.colour, one.runs, *vars(one.label).values())
                for (place, whose), one in zip(self.places, self.things)]
