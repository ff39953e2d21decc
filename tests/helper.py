"""What the tests share: calls by their names, and answers taken apart."""

from pieceheaps.desk import answers

TOP = 4294967295


def start(n):
    return [0, n]


def same(p, x, y):
    return [1, p, x, y]


def differ(p, x, y):
    return [2, p, x, y]


def cell(p, x, y):
    return [3, p, x, y]


def chain(p, x, y):
    return [4, p, x, y]


def clear(p):
    return [5, p]


def let(x, y):
    return [6, x, y]


def load(x, y):
    return [7, x, y]


def store(x, y):
    return [8, x, y]


def new(x):
    return [9, x]


def free(x):
    return [10, x]


FACTS = (same, differ, cell, chain)
TWO_NAME_STEPS = (let, load, store)
ONE_NAME_STEPS = (new, free)


def joined(calls):
    """The calls one behind another, as they are handed in."""
    handed = []
    for call in calls:
        handed.extend(call)
    return handed


def taken_apart(given):
    """One list of numbers for each call, out of what answers gives back."""
    apart = []
    at = 0
    while at < len(given):
        if given[at] < 1:
            raise AssertionError("a count below 1")
        behind = at + 1 + given[at]
        apart.append(given[at + 1:behind])
        at = behind
    if at != len(given):
        raise AssertionError("a count reaches beyond the end")
    return apart


def firsts(calls):
    """The one number that each of these calls answers."""
    apart = taken_apart(answers(joined(calls)))
    if len(apart) != len(calls):
        raise AssertionError("not one answer for each call")
    for numbers in apart:
        if len(numbers) != 1:
            raise AssertionError("not one number: %r" % (numbers,))
    return [numbers[0] for numbers in apart]


def last(calls):
    """What the last of these calls answers."""
    return firsts(calls)[-1]
