"""What fits, goes together and is the mildest, found out by trying every program there is."""

import itertools

from washloads.labels import Label, read_label
from washloads.things import Thing

PROGRAMS = list(itertools.product((30, 40, 60, 95), (0, 1, 2), (0, 1, 2), (0, 1, 2)))


def fits(program, thing):
    heat, gentle, bleach, dry = program
    label = thing.label
    return (thing.need <= heat <= label.heat and gentle >= label.gentle
            and bleach <= label.bleach and dry <= label.dry)


def fitting_all(things):
    return [program for program in PROGRAMS if all(fits(program, thing) for thing in things)]


def words_say_together(things):
    for one, other in itertools.combinations(things, 2):
        if one.colour != other.colour and (one.runs or other.runs):
            return False
    return bool(fitting_all(things))


def words_say_mildest(things):
    fitting = fitting_all(things)
    return (min(program[0] for program in fitting), min(program[1] for program in fitting),
            max(program[2] for program in fitting), max(program[3] for program in fitting))


def chance_thing(chance, weights, plain=False):
    if plain:
        return Thing(0, Label(40, 0, 0, 0, 0), 0, 0, 0, chance.choice(weights))
    heat = chance.choice((30, 40, 60, 95))
    need = chance.choice([need for need in (0, 30, 40, 60, 95) if need <= heat])
    label = Label(heat, chance.randrange(3), chance.randrange(3), chance.randrange(3), chance.randrange(4))
    return Thing(0, label, need, chance.randrange(3), int(chance.random() < 0.3), chance.choice(weights))


def told_thing(told_of_thing, told_of_label):
    """The thing of which thing and label answer that."""
    weight, need, colour, runs = told_of_thing
    return Thing(0, read_label(told_of_label[1:]), need, colour, runs, weight)
