"""What the laundry holds: machines, orders, things, and the time."""

from washloads.loads import first_way
from washloads.things import GONE, IN_MACHINE, IN_PARCEL, UNWASHED, WASHED

LAST_MINUTE = 1000000
THINGS_IN_PLAN = 8

STILL_OPEN = 0
CLOSED = 1
PACKED = 2
GIVEN_OUT = 3
CALLED_OFF = 4


class Machine:
    def __init__(self, bears):
        self.bears = bears
        self.broken = 0
        # The numbers of the things in it, in the order of the plan they were in.
        self.inside = []
        # What it runs by, and until when; neither counts for anything where it's empty.
        self.program = ()
        self.until = 0

    def is_running(self):
        return len(self.inside) > 0


class Order:
    def __init__(self, due):
        self.due = due
        self.state = STILL_OPEN


class House:
    def __init__(self):
        self.begin(0, [])

    def begin(self, price, bears):
        self.price = price
        self.till = 0
        self.now = 0
        self.machines = [Machine(grams) for grams in bears]
        self.orders = []
        self.things = []

    def things_of(self, o):
        return [thing for thing in self.things if thing.order == o]

    def set_state(self, o, state):
        found = self.orders[o]
        found.state = state

    def waits(self, thing):
        return thing.place == UNWASHED and self.orders[thing.order].state == CLOSED

    # What becomes of a whole order is told by its state; a thing alone keeps how far it was washed.
    def place_of(self, thing):
        state = self.orders[thing.order].state
        if state == PACKED:
            return IN_PARCEL
        if state in (GIVEN_OUT, CALLED_OFF):
            return GONE
        return thing.place

    def due_of(self, i):
        return self.orders[self.things[i].order].due

    # Things due alike stay in the order of their numbers, as sorting doesn't turn like ones round.
    def waiting_things(self):
        numbers = [i for i, thing in enumerate(self.things) if self.waits(thing)]
        return sorted(numbers, key=lambda i: self.due_of(i))

    def waiting_for(self, machine):
        borne = [i for i in self.waiting_things() if self.things[i].weight <= machine.bears]
        return borne[:THINGS_IN_PLAN]

    # The loads' numbers of these things, which are some of those that wait for the machine.
    def plan_of(self, numbers, machine):
        return first_way([self.things[i] for i in numbers], machine.bears)

    def fill(self, machine, numbers, program, until):
        for i in numbers:
            thing = self.things[i]
            thing.place = IN_MACHINE
        machine.inside = numbers
        machine.program = program
        machine.until = until

    # Answers how many things come out of the machine, to be in that place.
    def take_out(self, machine, place):
        numbers = machine.inside
        for i in numbers:
            thing = self.things[i]
            thing.place = place
        machine.inside = []
        return len(numbers)

    def wash_what_is_over(self):
        washed = 0
        for machine in self.machines:
            if machine.is_running() and machine.until <= self.now:
                washed = washed + self.take_out(machine, WASHED)
        return washed

    # A hundred that's only begun is paid like a whole one.
    def bill_of(self, o):
        grams = sum([thing.weight for thing in self.things_of(o)])
        return self.price * ((grams + 99) // 100)
