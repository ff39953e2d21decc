"""The calls that ask: each answers a list of numbers and leaves the line as it was."""

from pieceheaps.line import CELL, CHAIN, NOT_ALLOWED, NO_SUCH_NAME, NO_WORLD_TOLD, NEVER_SO
from pieceheaps.line import is_telling, are_names
from pieceheaps.telling import is_so, places_taken
from pieceheaps.program import first_bad_run, last_run
from pieceheaps.plain import PlainWorlds, plain_names, can_be_so

MOST_OF_SAYS = 2
MOST_OF_CAN = 1
# Each step gets a name at most one cell further into a chain, and what lies
# behind it is then told apart by one cell or more than one.
MOST_ABOVE_STEPS = 2


def world_told(names, heap):
    """A world as it's told in answers."""
    told = names[1:]
    told.append(len(heap))
    for place in sorted(heap):
        told.append(place)
        told.append(heap[place])
    return told


def bad_run_told(line, behind):
    """The first plain world from which a plain run is bad, and the first such run.

    It's (what triple and safe tell of both, which step is the fault, or how
    many steps there are if none is); None, if no run is bad.
    """
    steps = line.steps
    worlds = PlainWorlds(line.tellings[0], line.greatest, len(steps) + MOST_ABOVE_STEPS)
    while worlds.go_on():
        bad = first_bad_run(steps, worlds.names, worlds.heap, behind)
        if bad is not None:
            places = bad[0]
            return ([0] + world_told(worlds.names, worlds.heap) + [len(places)] + places, bad[1])
    return None


def triple(line):
    """Whether no run has a fault and each ends where the telling behind is so."""
    bad = bad_run_told(line, line.tellings[1])
    if bad is None:
        return [1]
    if bad[1] == len(line.steps):
        return bad[0] + [2]
    return bad[0] + [1, bad[1]]


def safe(line):
    """Whether no run has a fault."""
    bad = bad_run_told(line, None)
    if bad is None:
        return [1]
    return bad[0] + [bad[1]]


def says(line):
    """Whether the telling behind is so wherever the one before is."""
    worlds = PlainWorlds(line.tellings[0], line.greatest, MOST_OF_SAYS)
    while worlds.go_on():
        if not is_so(line.tellings[1], worlds.names, worlds.heap):
            return [0] + world_told(worlds.names, worlds.heap)
    return [1]


def frame(line):
    """The fewest pieces of the telling before that are left over by the one behind.

    In a world of the telling before each cell is one piece's. So a piece that
    has cells there must be left over if the telling behind takes none of them,
    and can't be if it takes them all; what must be somewhere is the fewest.
    """
    before = line.tellings[0]
    left = {}
    gone = {}
    worlds = PlainWorlds(before, line.greatest, MOST_OF_SAYS)
    while worlds.go_on():
        taken = places_taken(line.tellings[1], worlds.names, worlds.heap)
        if taken is None:
            return [0]
        for at, fact in enumerate(before):
            if fact[0] in (CELL, CHAIN) and not sort_piece(at, fact, worlds, taken, left, gone):
                return [0]
    if any([at in gone for at in left]):
        return [0]
    return [1, len(left)] + sorted(left)


def sort_piece(at, fact, worlds, taken, left, gone):
    """Put the piece to those left over or to those gone; False, if it's in part each."""
    own = places_taken([fact], worlds.names, worlds.heap)
    shared = len([place for place in own if place in taken])
    if shared > 0 and shared < len(own):
        return False
    if shared > 0:
        gone[at] = True
    elif len(own) > 0:
        left[at] = True
    return True


def can(line, p):
    """The first plain world of the telling p, if there's a world in which it's so."""
    if not is_telling(p):
        return [NOT_ALLOWED]
    worlds = PlainWorlds(line.tellings[p], line.greatest, MOST_OF_CAN)
    if not worlds.go_on():
        return [0]
    return [1] + world_told(worlds.names, worlds.heap)


def surely(line, p, x, y):
    """Whether x and y are the same in all worlds in which the telling p is so (1), in none (0) or in some (2)."""
    if not is_telling(p):
        return [NOT_ALLOWED]
    if not are_names(line, x, y):
        return [NO_SUCH_NAME]
    rows = [names for names in plain_names(line.greatest) if can_be_so(line.tellings[p], names)]
    if len(rows) == 0:
        return [NEVER_SO]
    alike = [names[x] == names[y] for names in rows]
    if all(alike):
        return [1]
    return [2] if any(alike) else [0]


def is_world(greatest, numbers):
    """Whether the numbers are a world's names, then its cells by place."""
    if len(numbers) < greatest or (len(numbers) - greatest) % 2 != 0:
        return False
    lowest = 1
    for place in numbers[greatest::2]:
        if place < lowest:
            return False
        lowest = place + 1
    return True


def names_of(greatest, numbers):
    return [0] + numbers[:greatest]


def heap_of(greatest, numbers):
    return dict(zip(numbers[greatest::2], numbers[greatest + 1::2], strict=True))


def fits(line, p, numbers):
    """Whether the telling p is so in the world handed in."""
    if not is_telling(p):
        return [NOT_ALLOWED]
    if not is_world(line.greatest, numbers):
        return [NO_WORLD_TOLD]
    if is_so(line.tellings[p], names_of(line.greatest, numbers), heap_of(line.greatest, numbers)):
        return [1]
    return [0]


def run(line, numbers):
    """Where the last plain run from the world handed in ends, or which step is its fault."""
    if not is_world(line.greatest, numbers):
        return [NO_WORLD_TOLD]
    names = names_of(line.greatest, numbers)
    heap = heap_of(line.greatest, numbers)
    at = last_run(line.steps, names, heap)
    if at < len(line.steps):
        return [0, at]
    return [1] + world_told(names, heap)
