"""Sides, numbers, what is told of two sides, and the numbers that agree with it."""

MOST_THINGS = 4
MOST_OFTEN = 3
LEAST_NUMBER = 1
GREATEST_NUMBER = 8

# The kinds of what is told: the first side comes to more, to no less, to as much.
MORE = 0
NO_LESS = 1
AS_MUCH = 2


class Weighing:
    """One object: how many things it has (0 before a begin), what is told, and all numbers that fit."""

    def __init__(self):
        self.things = 0
        self.told = []
        self.fitting = []


def is_kind(given):
    return given <= AS_MUCH


def is_side(given, things):
    return len(given) == things and all([often <= MOST_OFTEN for often in given])


def is_numbers(given, things):
    return len(given) == things and all([LEAST_NUMBER <= number <= GREATEST_NUMBER for number in given])


def side_of(taken, things):
    """The side on which each thing stands as often as it is among those taken."""
    return [taken.count(thing) for thing in range(things)]


def all_numbers(things):
    """Every list of numbers for so many things, in order."""
    grown = [[]]
    for thing in range(things):
        longer = []
        for numbers in grown:
            longer.extend([numbers + [number] for number in range(LEAST_NUMBER, GREATEST_NUMBER + 1)])
        grown = longer
    return grown


def agrees(numbers, comparison):
    """Whether what is told, a tuple of its kind, its first and its second side, is so by these numbers."""
    kind = comparison[0]
    lead = sum([number * (more - less) for number, more, less in zip(numbers, comparison[1], comparison[2])])
    if kind == MORE:
        return lead > 0
    if kind == NO_LESS:
        return lead >= 0
    return lead == 0


def agreeing(candidates, comparison):
    return [numbers for numbers in candidates if agrees(numbers, comparison)]


def all_that_fit(things, told):
    """Every list of numbers that agrees with all that is told, in order."""
    fitting = all_numbers(things)
    for comparison in told:
        fitting = agreeing(fitting, comparison)
    return fitting
