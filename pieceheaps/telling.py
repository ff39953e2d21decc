"""When a telling is so in a world.

A world is its names, a list of what each name is from name 0 on, and its
heap, a dict of what each place's cell holds.
"""

from pieceheaps.line import SAME, DIFFER, CELL


def is_so(telling, names, heap):
    """Whether the telling is so in the world of these names and this heap."""
    taken = places_taken(telling, names, heap)
    return taken is not None and len(taken) == len(heap)


def places_taken(telling, names, heap):
    """The places that the pieces take; None, if a fact isn't so or a place is taken twice."""
    taken = {}
    for kind, x, y in telling:
        if kind == SAME:
            agreed = names[x] == names[y]
        elif kind == DIFFER:
            agreed = names[x] != names[y]
        elif kind == CELL:
            agreed = take_cell(taken, names[x], names[y], heap)
        else:
            agreed = take_chain(taken, names[x], names[y], heap)
        if not agreed:
            return None
    return taken


def take_cell(taken, place, end, heap):
    """Whether there's such a cell that isn't taken yet; it's taken then."""
    if place in taken or place not in heap or heap[place] != end:
        return False
    taken[place] = True
    return True


def take_chain(taken, first, end, heap):
    """Whether there's such a chain of which nothing is taken yet; it's taken then."""
    place = first
    while place != end:
        # A chain that goes round comes to a place that it has taken itself.
        if place in taken or place not in heap:
            return False
        taken[place] = True
        place = heap[place]
    return True
