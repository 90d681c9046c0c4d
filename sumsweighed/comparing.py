"""The calls on one object, read from one list and answered in one list."""

from sumsweighed.measuring import (
    MOST_THINGS,
    Weighing,
    agreed_sets,
    agreeing,
    agrees,
    all_numbers,
    all_that_cancel,
    all_that_fit,
    balance_of,
    comes_to,
    does_cancel,
    is_clash,
    is_how_often,
    is_kind,
    is_numbers,
    is_side,
    side_of,
)

MOST_TOLD = 6

NONE_SUCH = -2
NOT_BEGUN = -11
NOT_RIGHT = -22
TOO_MANY = -28
THERE_IS_NONE = -33


def one_or_zero(holds):
    # Answers are whole numbers, never True or False.
    return [1 if holds else 0]


def begin(weighing, given):
    things = given[0]
    if not 1 <= things <= MOST_THINGS:
        return [NOT_RIGHT]
    weighing.things = things
    weighing.told = []
    weighing.fitting = all_numbers(things)
    return [0]


def is_comparison(weighing, given):
    return is_kind(given[0]) and is_side(given[1], weighing.things) and is_side(given[2], weighing.things)


def tell_one_more(weighing, comparison):
    if len(weighing.told) == MOST_TOLD:
        return [TOO_MANY]
    weighing.told.append(comparison)
    weighing.fitting = agreeing(weighing.fitting, comparison)
    return [len(weighing.told) - 1]


def tell(weighing, given):
    if not is_comparison(weighing, given):
        return [NOT_RIGHT]
    return tell_one_more(weighing, tuple(given))


def differ(weighing, given):
    if max(given[1:]) >= weighing.things:
        return [NONE_SUCH]
    if not is_kind(given[0]):
        return [NOT_RIGHT]
    # i - j against u - v is the same as i + v against j + u.
    first = side_of([given[1], given[4]], weighing.things)
    second = side_of([given[2], given[3]], weighing.things)
    return tell_one_more(weighing, (given[0], first, second))


def untell(weighing, given):
    gone = given[0]
    if gone >= len(weighing.told):
        return [NONE_SUCH]
    weighing.told.pop(gone)
    # Numbers that only this one kept from fitting come back, so all are looked at anew.
    weighing.fitting = all_that_fit(weighing.things, weighing.told)
    return [len(weighing.told)]


def can(weighing, given):
    return one_or_zero(len(weighing.fitting) > 0)


def ways(weighing, given):
    return [len(weighing.fitting)]


def least(weighing, given):
    if len(weighing.fitting) == 0:
        return [THERE_IS_NONE]
    # Of several with the least sum, min takes the first, and those that fit stand in order.
    numbers = min(weighing.fitting, key=sum)
    return [sum(numbers)] + numbers


def nth(weighing, given):
    which = given[0]
    if which >= len(weighing.fitting):
        return [THERE_IS_NONE]
    return [weighing.things] + weighing.fitting[which]


def not_agreed_with(weighing, numbers):
    return [t for t, comparison in enumerate(weighing.told) if not agrees(numbers, comparison)]


def fits(weighing, given):
    if not is_numbers(given[0], weighing.things):
        return [NOT_RIGHT]
    return one_or_zero(len(not_agreed_with(weighing, given[0])) == 0)


def wrong(weighing, given):
    if not is_numbers(given[0], weighing.things):
        return [NOT_RIGHT]
    these = not_agreed_with(weighing, given[0])
    return [len(these)] + these


def follows(weighing, given):
    if not is_comparison(weighing, given):
        return [NOT_RIGHT]
    if len(weighing.fitting) == 0:
        return [THERE_IS_NONE]
    return one_or_zero(len(agreeing(weighing.fitting, given)) == len(weighing.fitting))


def may(weighing, given):
    if not is_comparison(weighing, given):
        return [NOT_RIGHT]
    return one_or_zero(len(agreeing(weighing.fitting, given)) > 0)


def more(weighing, given):
    if max(given) >= weighing.things:
        return [NONE_SUCH]
    if len(weighing.fitting) == 0:
        return [THERE_IS_NONE]
    least_lead = min([numbers[given[0]] - numbers[given[1]] for numbers in weighing.fitting])
    if least_lead > 0:
        return [2]
    return one_or_zero(least_lead == 0)


def least_and_greatest(weighing, side):
    if len(weighing.fitting) == 0:
        return [THERE_IS_NONE]
    found = [comes_to(side, numbers) for numbers in weighing.fitting]
    return [min(found), max(found)]


def range_of(weighing, given):
    thing = given[0]
    if thing >= weighing.things:
        return [NONE_SUCH]
    # A thing's number is what the side that has it alone comes to.
    return least_and_greatest(weighing, side_of([thing], weighing.things))


def sums(weighing, given):
    if not is_side(given[0], weighing.things):
        return [NOT_RIGHT]
    return least_and_greatest(weighing, given[0])


def clashes(weighing, given):
    if len(weighing.fitting) > 0:
        return [THERE_IS_NONE]
    count = len(weighing.told)
    agreed = agreed_sets(weighing.things, weighing.told)
    found = [asked for asked in range(1 << count) if is_clash(agreed, asked, count)]
    return [len(found)] + found


def spare(weighing, given):
    if len(weighing.fitting) == 0:
        return [THERE_IS_NONE]
    count = len(weighing.told)
    agreed = agreed_sets(weighing.things, weighing.told)
    everything = (1 << count) - 1
    # Left out, one lets in just those numbers that agree with all but it.
    these = [t for t in range(count) if everything - (1 << t) not in agreed]
    return [len(these)] + these


def cancels(weighing, given):
    if not is_how_often(given[0], weighing.told):
        return [NOT_RIGHT]
    return one_or_zero(does_cancel(given[0], weighing.things, weighing.told))


def cancel(weighing, given):
    found = all_that_cancel(weighing.things, weighing.told)
    if len(found) == 0:
        return [THERE_IS_NONE]
    # As in least: min takes the first of several with the least sum, and they stand in order.
    how_often = min(found, key=sum)
    return [sum(how_often)] + how_often


def balance(weighing, given):
    if not is_how_often(given[0], weighing.told):
        return [NOT_RIGHT]
    return [weighing.things] + balance_of(given[0], weighing.things, weighing.told)


def look(weighing, given):
    if given[0] >= len(weighing.told):
        return [NONE_SUCH]
    comparison = weighing.told[given[0]]
    return [comparison[0]] + comparison[1] + comparison[2]


def state(weighing, given):
    return [weighing.things, len(weighing.told)]


# By a call's number: what answers it, how many whole numbers it has, how many rows behind them.
CALLS = (
    (begin, 1, 0),
    (tell, 1, 2),
    (differ, 5, 0),
    (untell, 1, 0),
    (can, 0, 0),
    (ways, 0, 0),
    (least, 0, 0),
    (nth, 1, 0),
    (fits, 0, 1),
    (wrong, 0, 1),
    (follows, 1, 2),
    (may, 1, 2),
    (more, 2, 0),
    (range_of, 1, 0),
    (sums, 0, 1),
    (clashes, 0, 0),
    (spare, 0, 0),
    (cancels, 0, 1),
    (cancel, 0, 0),
    (balance, 0, 1),
    (look, 1, 0),
    (state, 0, 0),
)
BEGIN = 0


def read_calls(calls):
    """The calls of a list, each a tuple of its number and what is given with it: whole numbers, then rows."""
    read = []
    at = 0
    while at < len(calls):
        number = calls[at]
        behind = at + 1 + CALLS[number][1]
        given = calls[at + 1:behind]
        for row in range(CALLS[number][2]):
            start = behind + 1
            behind = start + calls[behind]
            given.append(calls[start:behind])
        read.append((number, given))
        at = behind
    return read


def answer(weighing, number, given):
    if weighing.things == 0 and number != BEGIN:
        return [NOT_BEGUN]
    return CALLS[number][0](weighing, given)


def answers(calls):
    """For each call of the list, in order: how many numbers are answered, then these."""
    weighing = Weighing()
    answered = []
    for number, given in read_calls(calls):
        one_answer = answer(weighing, number, given)
        answered.append(len(one_answer))
        answered.extend(one_answer)
    return answered
