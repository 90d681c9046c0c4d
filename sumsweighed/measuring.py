"""Sides, numbers, what is told of two sides, the numbers that agree with it, and how it clashes and cancels."""

MOST_THINGS = 4
MOST_OFTEN = 3
MOST_TIMES = 3
LEAST_NUMBER = 1
GREATEST_NUMBER = 8

# The kinds of what is told: the first side comes to more, to no less, to as much.
MORE = 0
NO_LESS = 1
AS_MUCH = 2


class Weighing:
    """One object: how many things it has (0 before a begin), what is told, and all numbers that fit."""

    def __init__(self):
        self.things = 0
        self.told = []
        self.fitting = []


def is_kind(given):
    return given <= AS_MUCH


def is_side(given, things):
    return len(given) == things and all([often <= MOST_OFTEN for often in given])


def is_numbers(given, things):
    return len(given) == things and all([LEAST_NUMBER <= number <= GREATEST_NUMBER for number in given])


def is_how_often(given, told):
    return len(given) == len(told) and all([times <= MOST_TIMES for times in given])


def side_of(taken, things):
    """The side on which each thing stands as often as it is among those taken."""
    return [taken.count(thing) for thing in range(things)]


def all_lists(length, lowest, highest):
    """Every list so long of whole numbers from the lowest to the highest, in order."""
    grown = [[]]
    for place in range(length):
        longer = []
        for begun in grown:
            longer.extend([begun + [number] for number in range(lowest, highest + 1)])
        grown = longer
    return grown


def all_numbers(things):
    """Every list of numbers for so many things, in order."""
    return all_lists(things, LEAST_NUMBER, GREATEST_NUMBER)


def comes_to(side, numbers):
    return sum([often * number for often, number in zip(side, numbers)])


def agrees(numbers, comparison):
    """Whether what is told, a tuple of its kind, its first and its second side, is so by these numbers."""
    kind = comparison[0]
    lead = sum([number * (more - less) for number, more, less in zip(numbers, comparison[1], comparison[2])])
    if kind == MORE:
        return lead > 0
    if kind == NO_LESS:
        return lead >= 0
    return lead == 0


def agreeing(candidates, comparison):
    return [numbers for numbers in candidates if agrees(numbers, comparison)]


def all_that_fit(things, told):
    """Every list of numbers that agrees with all that is told, in order."""
    fitting = all_numbers(things)
    for comparison in told:
        fitting = agreeing(fitting, comparison)
    return fitting


def agreed_set(numbers, told):
    """The set of all that is told with which these numbers agree."""
    return sum([1 << t for t, comparison in enumerate(told) if agrees(numbers, comparison)])


def agreed_sets(things, told):
    """Each set that is, by some numbers, all that they agree with; rising."""
    found = {}
    for numbers in all_numbers(things):
        found[agreed_set(numbers, told)] = True
    return sorted(found)


def some_agree(agreed, asked):
    """Whether some numbers agree with all of the set that is asked, where these are the agreed sets."""
    return any([one & asked == asked for one in agreed])


def is_clash(agreed, asked, count):
    if some_agree(agreed, asked):
        return False
    return all([some_agree(agreed, asked - (1 << t)) for t in range(count) if asked & (1 << t) != 0])


def balance_of(how_often, things, told):
    """Of each thing, how often it is on the first sides less how often on the second, each told so often."""
    balances = [0] * things
    for times, comparison in zip(how_often, told):
        for thing in range(things):
            balances[thing] += times * (comparison[1][thing] - comparison[2][thing])
    return balances


def tells_of_more(how_often, told):
    return any([times > 0 and comparison[0] == MORE for times, comparison in zip(how_often, told)])


def does_cancel(how_often, things, told):
    balances = balance_of(how_often, things, told)
    return max(balances) <= 0 and (min(balances) < 0 or tells_of_more(how_often, told))


def all_that_cancel(things, told):
    """Every way, in order, to take what is told so often that it cancels."""
    return [how_often for how_often in all_lists(len(told), 0, MOST_TIMES) if does_cancel(how_often, things, told)]
