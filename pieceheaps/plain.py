"""Plain worlds of a telling, in their order.

Every world in which a telling is so is like a plain one, but for which numbers
stand for which places and for how long its chains are between two names. A
question about all worlds is so answered by the plain ones, if their most is
great enough that no longer chain could tell another answer.
"""

from pieceheaps.line import SAME, DIFFER, CELL, CHAIN


def plain_names(greatest):
    """What the names from name 0 on may be in plain worlds, in order."""
    rows = [[0]]
    while len(rows[0]) <= greatest:
        longer = []
        for row in rows:
            longer.extend([row + [number] for number in range(max(row) + 2)])
        rows = longer
    return rows


def cells_told(telling, names):
    """Each cell that a fact tells by itself, as (place, what it holds)."""
    return [(names[x], names[y]) for kind, x, y in telling if kind == CELL]


def chains_told(telling, names):
    """Each chain that has a cell, as (its first place, its end)."""
    found = [(names[x], names[y]) for kind, x, y in telling if kind == CHAIN]
    return [ends for ends in found if ends[0] != ends[1]]


def can_be_so(telling, names):
    """Whether there's a world with these names in which the telling is so.

    Chains of one cell each are in nobody's way, so it's enough that the first
    places of all pieces are apart.
    """
    for kind, x, y in telling:
        if kind == SAME and names[x] != names[y]:
            return False
        if kind == DIFFER and names[x] == names[y]:
            return False
    firsts = [ends[0] for ends in cells_told(telling, names) + chains_told(telling, names)]
    return 0 not in firsts and len(set(firsts)) == len(firsts)


class PlainWorlds:
    """The plain worlds of a telling: after each go_on that answers True, names and heap are the next one."""

    def __init__(self, telling, greatest, most):
        self.telling = telling
        self.most = most
        self.rows = [row for row in plain_names(greatest) if can_be_so(telling, row)]
        self.next_row = 0
        self.names = []
        self.heap = {}
        self.chains = []
        # The cells of chains in the order in which they lie: which chain, the
        # place, and which it is from the chain's first or from a name's on.
        self.laid = []
        # Numbers of names at which no piece begins, so that a chain may go through.
        self.passages = []
        self.first_free = 0
        self.next_free = 0

    def go_on(self):
        """Go on to the next plain world; whether there's one."""
        while len(self.laid) > 0:
            if self.turn_last_cell():
                return True
            self.take_up_last_cell()
        if self.next_row == len(self.rows):
            return False
        self.begin(self.rows[self.next_row])
        self.next_row += 1
        return True

    def begin(self, names):
        """Lay the first plain world with these names."""
        self.names = names
        self.heap = dict(cells_told(self.telling, names))
        self.chains = chains_told(self.telling, names)
        firsts = [ends[0] for ends in self.chains]
        self.first_free = max(names) + 1
        self.next_free = self.first_free
        self.passages = [number for number in range(1, self.first_free)
                         if number not in self.heap and number not in firsts]
        self.lay_chains(0)

    def lay_chains(self, first):
        """Lay the chains from this one on with one cell each."""
        for which in range(first, len(self.chains)):
            self.lay_cell(which, self.chains[which][0], 1)

    def lay_cell(self, which, place, count):
        """Lay one more cell of a chain, which holds the chain's end."""
        self.heap[place] = self.chains[which][1]
        self.laid.append((which, place, count))
        if place == self.next_free:
            self.next_free += 1

    def take_up_last_cell(self):
        place = self.laid.pop()[1]
        self.heap.pop(place)
        if place >= self.first_free:
            self.next_free = place

    def turn_last_cell(self):
        """Let the last cell hold what's next in the order; whether there's such a number."""
        cell = self.laid[-1]
        number = self.number_next(self.heap[cell[1]], self.chains[cell[0]][1], cell[2])
        if number is None:
            return False
        self.heap[cell[1]] = number
        self.lay_cell(cell[0], number, cell[2] + 1 if number == self.next_free else 1)
        self.lay_chains(cell[0] + 1)
        return True

    def number_next(self, held, end, count):
        """What a cell holds next behind what it held: after the end names' numbers, then the free one."""
        if held >= self.first_free:
            return None
        for number in self.passages:
            if number != end and number not in self.heap and (held == end or number > held):
                return number
        return self.next_free if count < self.most else None
