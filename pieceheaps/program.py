"""What a program's steps do in a world, and its plain runs from one."""

from pieceheaps.line import LET, LOAD, STORE, NEW
from pieceheaps.telling import is_so


def do_step(step, names, heap):
    """Do a step that isn't new; whether it's no fault."""
    kind = step[0]
    x = step[1]
    y = step[2]
    if kind == LET:
        names[x] = names[y]
        return True
    place = names[y] if kind == LOAD else names[x]
    if place not in heap:
        return False
    if kind == LOAD:
        names[x] = heap[place]
    elif kind == STORE:
        heap[place] = names[y]
    else:
        heap.pop(place)
    return True


def do_new(step, place, names, heap):
    """Let the new cell lie at this place."""
    heap[place] = 0
    names[step[1]] = place


def place_above_all(names, heap):
    """The number next above all that names are, cells' places and what cells hold."""
    greatest = max(names)
    for place, held in heap.items():
        greatest = max(greatest, place, held)
    return greatest + 1


def new_places(names, heap):
    """The places that a new cell gets in plain runs, rising."""
    known = names + list(heap.values())
    places = sorted(set([number for number in known if number != 0 and number not in heap]))
    places.append(place_above_all(names, heap))
    return places


def last_run(steps, names, heap):
    """Do the last plain run; which step is its fault, or how many steps there are if none is."""
    for at, step in enumerate(steps):
        if step[0] == NEW:
            do_new(step, place_above_all(names, heap), names, heap)
        elif not do_step(step, names, heap):
            return at
    return len(steps)


def first_bad_run(steps, names, heap, behind):
    """The first plain run with a fault, or with an end at which the telling behind isn't so.

    It's told as (places of new cells, which step is the fault, or how many
    steps there are if none is); None, if there's no such run. Where behind is
    None every end will do.
    """
    return first_bad_from(0, steps, list(names), dict(heap), [], behind)


def first_bad_from(first, steps, names, heap, places, behind):
    """As first_bad_run, from the step first on; it may change names and heap."""
    for at in range(first, len(steps)):
        if steps[at][0] == NEW:
            return first_bad_new(at, steps, names, heap, places, behind)
        if not do_step(steps[at], names, heap):
            return (places, at)
    if behind is None or is_so(behind, names, heap):
        return None
    return (places, len(steps))


def first_bad_new(at, steps, names, heap, places, behind):
    """As first_bad_from, where the step at which it begins is a new."""
    for place in new_places(names, heap):
        names_then = list(names)
        heap_then = dict(heap)
        do_new(steps[at], place, names_then, heap_then)
        bad = first_bad_from(at + 1, steps, names_then, heap_then, places + [place], behind)
        if bad is not None:
            return bad
    return None
