"""What the tests share: calls by their names, and answers taken apart."""

from pieceheaps.desk import answers

TOP = 4294967295


def start(n):
    return [0, n]


def same(p, x, y):
    return [1, p, x, y]


def differ(p, x, y):
    return [2, p, x, y]


def cell(p, x, y):
    return [3, p, x, y]


def chain(p, x, y):
    return [4, p, x, y]


def clear(p):
    return [5, p]


def let(x, y):
    return [6, x, y]


def load(x, y):
    return [7, x, y]


def store(x, y):
    return [8, x, y]


def new(x):
    return [9, x]


def free(x):
    return [10, x]


def undo():
    return [11]


def swap():
    return [12]


def triple():
    return [13]


def safe():
    return [14]


def says():
    return [15]


def frame():
    return [16]


def can(p):
    return [17, p]


def surely(p, x, y):
    return [18, p, x, y]


def fits(p, world):
    return [19, p, len(world)] + list(world)


def run(world):
    return [20, len(world)] + list(world)


FACTS = (same, differ, cell, chain)
TWO_NAME_STEPS = (let, load, store)
ONE_NAME_STEPS = (new, free)


def joined(calls):
    """The calls one behind another, as they are handed in."""
    handed = []
    for call in calls:
        handed.extend(call)
    return handed


def taken_apart(given):
    """One list of numbers for each call, out of what answers gives back."""
    apart = []
    at = 0
    while at < len(given):
        if given[at] < 1:
            raise AssertionError("a count below 1")
        behind = at + 1 + given[at]
        apart.append(given[at + 1:behind])
        at = behind
    if at != len(given):
        raise AssertionError("a count reaches beyond the end")
    return apart


def firsts(calls):
    """The one number that each of these calls answers."""
    apart = taken_apart(answers(joined(calls)))
    if len(apart) != len(calls):
        raise AssertionError("not one answer for each call")
    for numbers in apart:
        if len(numbers) != 1:
            raise AssertionError("not one number: %r" % (numbers,))
    return [numbers[0] for numbers in apart]


def last(calls):
    """What the last of these calls answers."""
    return firsts(calls)[-1]


def asked(calls):
    """All numbers that the last of these calls answers; those ahead of it are not refused."""
    apart = taken_apart(answers(joined(calls)))
    if len(apart) != len(calls):
        raise AssertionError("not one answer for each call")
    for numbers in apart[:-1]:
        if numbers[0] < 0:
            raise AssertionError("refused: %r" % (numbers,))
    return apart[-1]


def world(names, heap):
    """A world as answers tell it: what names 1 to n are, how many cells, the cells by place."""
    told = list(names) + [len(heap)]
    for place in sorted(heap):
        told += [place, heap[place]]
    return told


def handed(names, heap):
    """A world as it is handed in: without how many cells there are."""
    told = world(names, heap)
    return told[:len(names)] + told[len(names) + 1:]


# The words of the document once more, slowly: facts and steps are (call, x, y), names begin with name 0.


def chain_places(first, end, heap):
    """The places of a chain's cells, or None if there's no such chain."""
    if first == end:
        return []
    places = [first]
    while places[-1] in heap and heap[places[-1]] != end:
        if heap[places[-1]] in places:
            return None
        places.append(heap[places[-1]])
    return places if places[-1] in heap else None


def so_in(facts, names, heap):
    """Whether a telling is so in a world."""
    taken = []
    for kind, x, y in facts:
        if kind == 1 and names[x] != names[y]:
            return False
        if kind == 2 and names[x] == names[y]:
            return False
        if kind == 3:
            if heap.get(names[x]) != names[y]:
                return False
            taken.append(names[x])
        if kind == 4:
            places = chain_places(names[x], names[y], heap)
            if places is None:
                return False
            taken.extend(places)
    return sorted(taken) == sorted(heap)


def plain_rank(facts, names, heap, most):
    """What puts the plain worlds of a telling in their order; None if this is none of them."""
    for at in range(1, len(names)):
        least = min(number for number in range(len(names) + 1) if number not in names[:at])
        if names[at] not in names[:at] + [least]:
            return None
    if not so_in(facts, names, heap):
        return None
    free_number = min(number for number in range(len(names) + 1) if number not in names)
    rank = []
    for kind, x, y in facts:
        if kind != 4:
            continue
        row = 0
        for place in chain_places(names[x], names[y], heap):
            row = 1 if place in names else row + 1
            held = heap[place]
            if held == names[y]:
                rank.append((0, 0))
            elif held in names:
                rank.append((1, held))
            elif held == free_number:
                rank.append((2, 0))
                free_number += 1
            else:
                return None
            if row > most:
                return None
    return (list(names), rank)


def every_world(n, greatest):
    """All worlds of n names with numbers up to this one, as (names, heap)."""
    heaps = [{}]
    for place in range(1, greatest + 1):
        heaps = heaps + [{**heap, place: held} for heap in heaps for held in range(greatest + 1)]
    rows = [[0]]
    for name in range(n):
        rows = [row + [number] for row in rows for number in range(greatest + 1)]
    return [(names, heap) for names in rows for heap in heaps]


def plain_places(names, heap):
    """Where a new cell lies in plain runs."""
    numbers = set(names) | set(heap) | set(heap.values())
    return [number for number in sorted(numbers) if number > 0 and number not in heap] + [max(numbers) + 1]


def every_place(names, heap):
    """Where a new cell lies in runs of all kinds: above all there's nothing to tell one place from another."""
    return [number for number in range(1, max(plain_places(names, heap)) + 1) if number not in heap]


def runs(steps, names, heap, places_for):
    """The runs from a world in order, each as (places of new cells, fault or None, names, heap)."""
    going = [([], None, list(names), dict(heap))]
    for at, (kind, x, y) in enumerate(steps):
        further = []
        for places, fault, names, heap in going:
            if fault is not None:
                further.append((places, fault, names, heap))
            elif kind == 9:
                for place in places_for(names, heap):
                    then = names[:x] + [place] + names[x + 1:]
                    further.append((places + [place], None, then, {**heap, place: 0}))
            elif kind == 6:
                further.append((places, None, names[:x] + [names[y]] + names[x + 1:], heap))
            elif names[y if kind == 7 else x] not in heap:
                further.append((places, at, names, heap))
            elif kind == 7:
                further.append((places, None, names[:x] + [heap[names[y]]] + names[x + 1:], heap))
            elif kind == 8:
                further.append((places, None, names, {**heap, names[x]: names[y]}))
            else:
                rest = {place: heap[place] for place in heap if place != names[x]}
                further.append((places, None, names, rest))
        going = further
    return going
