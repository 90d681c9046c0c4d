"""Writes calls as the interface tells, and takes what is answered apart again."""

from sumsweighed.comparing import answers

NUMBERS = {
    "begin": 0, "tell": 1, "differ": 2, "untell": 3, "can": 4, "ways": 5, "least": 6, "nth": 7,
    "fits": 8, "wrong": 9, "follows": 10, "may": 11, "more": 12, "range_of": 13, "sums": 14,
    "clashes": 15, "spare": 16, "cancels": 17, "cancel": 18, "balance": 19, "look": 20, "state": 21,
}


MOST_CALLS = 25


def written(calls):
    """Calls such as ("tell", 0, [1, 0], [0, 1]) as one list of whole numbers."""
    if len(calls) > MOST_CALLS:
        raise ValueError("a line has at most 25 calls")
    line = []
    for name, *given in calls:
        line.append(NUMBERS[name])
        for one in given:
            if isinstance(one, list):
                line.append(len(one))
                line.extend(one)
            else:
                line.append(one)
    return line


def apart(answered):
    """What is answered, as one list for each call."""
    lists = []
    at = 0
    while at < len(answered):
        behind = at + 1 + answered[at]
        if behind > len(answered):
            raise ValueError("fewer numbers are answered than their count says")
        lists.append(answered[at + 1:behind])
        at = behind
    return lists


def ask(*calls):
    """What each of these calls answers, one behind another on one new object."""
    return apart(answers(written(calls)))


def last(*calls):
    """What the last of these calls answers."""
    return ask(*calls)[-1]
