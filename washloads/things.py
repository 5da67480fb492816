"""Things, which of them go together, and the program that washes them."""

from washloads.labels import LABEL_HEATS

PROGRAM_HEATS = (30, 40, 60, 95)
WASHING_MINUTES = {30: 45, 40: 60, 60: 75, 95: 90}
DRYING_MINUTES = 10

MOST_COLOUR = 9
MOST_WEIGHT = 20000

# Where a thing is: in no machine and not washed yet, in a machine, washed, packed, or here no
# more, as its order is given out or called off.
UNWASHED = 0
IN_MACHINE = 1
WASHED = 2
IN_PARCEL = 3
GONE = 4


class Thing:
    def __init__(self, order, label, need, colour, runs, weight):
        self.order = order
        self.label = label
        self.need = need
        self.colour = colour
        self.runs = runs
        self.weight = weight
        self.place = UNWASHED


def is_in_range(thing):
    if thing.need not in LABEL_HEATS or thing.colour > MOST_COLOUR or thing.runs > 1:
        return False
    return 1 <= thing.weight <= MOST_WEIGHT


# A program is its heat, gentleness, bleaching and drying; None is answered where none fits all.
def mildest_program(things):
    coolest = max([thing.need for thing in things])
    hottest = min([thing.label.heat for thing in things])
    heats = [heat for heat in PROGRAM_HEATS if coolest <= heat <= hottest]
    if len(heats) == 0:
        return None
    gentle = max([thing.label.gentle for thing in things])
    bleach = min([thing.label.bleach for thing in things])
    dry = min([thing.label.dry for thing in things])
    return (heats[0], gentle, bleach, dry)


def minutes_of(program):
    heat, gentle, bleach, dry = program
    return WASHING_MINUTES[heat] + DRYING_MINUTES * dry


# One whose colour runs bears with its own colour alone, so then all must be of one.
def colours_agree(things):
    if sum([thing.runs for thing in things]) == 0:
        return True
    return all([thing.colour == things[0].colour for thing in things])


def go_together(things):
    return colours_agree(things) and mildest_program(things) is not None


def is_load(things, drum):
    return sum([thing.weight for thing in things]) <= drum and go_together(things)
