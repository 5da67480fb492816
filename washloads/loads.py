"""Things shared out to the fewest loads of a drum, by the first way."""

from washloads.things import go_together


def partners(thing, things):
    return [go_together([thing, other]) for other in things]


# A way, here, is the loads' numbers of the first things, so far.
class Sharing:
    def __init__(self, things, drum):
        self.drum = drum
        self.weights = [thing.weight for thing in things]
        # Two by two is enough: the heats that fit a thing are neighbours in one row, and
        # stretches of a row of which each two meet all meet in one place.
        self.matches = [partners(thing, things) for thing in things]

    def takes(self, way, load):
        last = len(way)
        inside = [place for place in range(last) if way[place] == load]
        if self.weights[last] + sum([self.weights[place] for place in inside]) > self.drum:
            return False
        return all([self.matches[last][place] for place in inside])

    # Lesser numbers are tried first, so the first way that is found is the first of all; a new
    # load has the next number alone, as loads are numbered in the order in which they come.
    def finished(self, way, most):
        if len(way) == len(self.weights):
            return way
        begun = max(way, default=-1) + 1
        for load in range(min(begun + 1, most)):
            if self.takes(way, load):
                whole = self.finished(way + [load], most)
                if whole is not None:
                    return whole
        return None


# Each thing must be a load of the drum alone, so that there is a way.
def first_way(things, drum):
    sharing = Sharing(things, drum)
    most = 1
    way = sharing.finished([], most)
    while way is None:
        most = most + 1
        way = sharing.finished([], most)
    return way
