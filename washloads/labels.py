"""Labels: how a thing may be treated, and how that is written in signs."""

LABEL_HEATS = (0, 30, 40, 60, 95)
MOST_GENTLE = 2
MOST_BLEACH = 2
MOST_DRY = 2
MOST_IRON = 3

# W, two digits, and B, D, I with a digit each; gentleness comes on top, a sign for each step.
SIGNS_OF_ALL = 9


class Label:
    def __init__(self, heat, gentle, bleach, dry, iron):
        self.heat = heat
        self.gentle = gentle
        self.bleach = bleach
        self.dry = dry
        self.iron = iron


def digit_of(sign):
    return sign - ord("0")


def signs_of(label):
    heat = str(label.heat).zfill(2)
    gentle = "_" * label.gentle
    bleach = label.bleach
    dry = label.dry
    iron = label.iron
    text = f"W{heat}{gentle}B{bleach}D{dry}I{iron}"
    return [ord(letter) for letter in text]


def is_allowed(label):
    if label.heat not in LABEL_HEATS:
        return False
    if label.gentle > (MOST_GENTLE if label.heat > 0 else 0):
        return False
    return 0 <= label.bleach <= MOST_BLEACH and 0 <= label.dry <= MOST_DRY and 0 <= label.iron <= MOST_IRON


# Answers None where the signs are no label.
def read_label(signs):
    gentle = signs.count(ord("_"))
    if len(signs) != SIGNS_OF_ALL + gentle:
        return None
    heat = 10 * digit_of(signs[1]) + digit_of(signs[2])
    label = Label(heat, gentle, digit_of(signs[-5]), digit_of(signs[-3]), digit_of(signs[-1]))
    # Only some of the signs were looked at, and each where it ought to stand: a label has one
    # form alone, so whatever isn't as the label would be written is none.
    if not is_allowed(label) or signs_of(label) != signs:
        return None
    return label
