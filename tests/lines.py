"""What the tests share: the calls as lists of numbers, and a test case that takes answers apart."""

import unittest

from washloads.laundry import answers

MOST = 4294967295


def start(price=10, bears=(5000,)):
    return [0, price, len(bears), *bears]


def order(due=100):
    return [1, due]


def add(o, w=1000, t="W40B2D2I3", need=0, colour=0, runs=0):
    signs = [ord(sign) for sign in t] if isinstance(t, str) else list(t)
    return [2, o, need, colour, runs, w, len(signs), *signs]


def close(o):
    return [3, o]


def plan(k):
    return [4, k]


def run(k, j):
    return [5, k, j]


def tick(t):
    return [6, t]


def broken(k, on):
    return [7, k, on]


def pack(o):
    return [8, o]


def hand(o):
    return [9, o]


def cancel(o):
    return [10, o]


def bill(o):
    return [11, o]


def where(i):
    return [12, i]


def label(i):
    return [13, i]


def thing(i):
    return [14, i]


def apart(*numbers):
    return [15, len(numbers), *numbers]


def waiting():
    return [16]


def machine(k):
    return [17, k]


def inside(k):
    return [18, k]


def state(o):
    return [19, o]


def late():
    return [20]


def next_done():
    return [21]


def till():
    return [22]


def all_there_is():
    return [23]


# Whatever can be asked, of the first few orders, things and machines.
EVERYTHING = (*[ask(o) for ask in (state, bill) for o in range(3)],
              *[ask(i) for ask in (where, label, thing) for i in range(5)],
              *[ask(k) for ask in (machine, inside, plan) for k in range(3)],
              apart(0, 1), apart(1, 0, 2), waiting(), late(), next_done(), till(), all_there_is())


def every_label():
    """Each right label in signs, and its five numbers."""
    for heat in ("00", "30", "40", "60", "95"):
        for gentle in range(1 if heat == "00" else 3):
            for rest in range(3 * 3 * 4):
                bleach, dry, iron = rest // 12, rest // 4 % 3, rest % 4
                text = f"W{heat}{'_' * gentle}B{bleach}D{dry}I{iron}"
                yield text, (int(heat), gentle, bleach, dry, iron)


def flat(calls):
    return [number for call in calls for number in call]


def planned(loads, *pairs):
    """What plan answers: how many loads, how many things, and each thing with its load."""
    return [loads, len(pairs), *[number for pair in pairs for number in pair]]


def told(*calls):
    """The answers to a line, a list for each call."""
    given = answers(flat(calls))
    found = []
    at = 0
    while at < len(given):
        found.append(given[at + 1:at + 1 + given[at]])
        at += 1 + given[at]
    if at != len(given) or len(found) != len(calls):
        raise AssertionError(f"not an answer for each of {len(calls)} calls: {given}")
    return found


def last(*calls):
    return told(*calls)[-1]


class LineCase(unittest.TestCase):
    def tells(self, pairs):
        """Each pair is a call and its answer, of one line."""
        got = told(*[call for call, wanted in pairs])
        for at, (call, wanted) in enumerate(pairs):
            wanted = wanted if isinstance(wanted, list) else [wanted]
            self.assertEqual(got[at], wanted, f"call {at}: {call}")

    def refuses(self, before, call, refusal, behind=()):
        """The call is refused, and whatever is asked behind it is answered as if it hadn't been."""
        asked = (*EVERYTHING, *behind, *EVERYTHING)
        without = told(*before, *asked)
        got = told(*before, call, *asked)
        self.assertEqual(got[len(before)], [refusal], f"{call}")
        self.assertEqual(got[:len(before)] + got[len(before) + 1:], without, f"behind {call}")
