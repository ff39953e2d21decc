"""What one line's calls are about: its names, two tellings and a program."""

# A fact and a step bear the number of the call that writes them.
START = 0
SAME = 1
DIFFER = 2
CELL = 3
CHAIN = 4
CLEAR = 5
LET = 6
LOAD = 7
STORE = 8
NEW = 9
FREE = 10
UNDO = 11
SWAP = 12
TRIPLE = 13
SAFE = 14
SAYS = 15
FRAME = 16
CAN = 17
SURELY = 18
FITS = 19
RUN = 20

NOT_ALLOWED = -1
NO_SUCH_NAME = -2
NO_WORLD_TOLD = -3
FULL = -5
NEVER_SO = -6
NONE_THERE = -7

FIRST_GREATEST = 3
MOST_GREATEST = 4
MOST_FACTS = 8
MOST_CHAINS = 3
MOST_STEPS = 4


class Line:
    """Names are 0 to greatest; a fact and a step are each (kind, x, y)."""

    def __init__(self):
        self.greatest = FIRST_GREATEST
        self.tellings = [[], []]
        self.steps = []


def start(line, greatest):
    """Begin anew with the names 0 to greatest."""
    if greatest < 1 or greatest > MOST_GREATEST:
        return NOT_ALLOWED
    line.greatest = greatest
    line.tellings = [[], []]
    line.steps = []
    return greatest


def is_telling(p):
    return p == 0 or p == 1


def are_names(line, x, y):
    return x <= line.greatest and y <= line.greatest


def count_chains(telling):
    return len([fact for fact in telling if fact[0] == CHAIN])


def is_full_for(telling, kind):
    """Whether the telling has no room for one more fact of this kind."""
    if len(telling) >= MOST_FACTS:
        return True
    return kind == CHAIN and count_chains(telling) >= MOST_CHAINS


def add_fact(line, kind, p, x, y):
    """Put a fact last in the telling p; how many facts it has then."""
    if not is_telling(p):
        return NOT_ALLOWED
    if not are_names(line, x, y):
        return NO_SUCH_NAME
    telling = line.tellings[p]
    if is_full_for(telling, kind):
        return FULL
    telling.append((kind, x, y))
    return len(telling)


def clear_telling(line, p):
    """Empty the telling p; how many facts it had."""
    if not is_telling(p):
        return NOT_ALLOWED
    had = len(line.tellings[p])
    line.tellings[p] = []
    return had


def sets_its_name(kind):
    """Whether a step of this kind gives its name x another number."""
    return kind in (LET, LOAD, NEW)


def add_step(line, kind, x, y):
    """Put a step last in the program; how many steps there are then.

    A step of one name comes with 0 for y: that name is always there, so
    every step is looked at in the same way.
    """
    if not are_names(line, x, y):
        return NO_SUCH_NAME
    if x == 0 and sets_its_name(kind):
        return NOT_ALLOWED
    if len(line.steps) >= MOST_STEPS:
        return FULL
    line.steps.append((kind, x, y))
    return len(line.steps)


def undo_step(line):
    """Take the last step away; how many steps are left."""
    if len(line.steps) == 0:
        return NONE_THERE
    line.steps.pop()
    return len(line.steps)


def swap_tellings(line):
    """Let the tellings change places; how many facts each has then."""
    line.tellings.reverse()
    return [len(telling) for telling in line.tellings]
