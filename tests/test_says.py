"""says: whether one telling says the other, and the first plain world in which it doesn't."""

import unittest

from pieceheaps.desk import answers
from tests.helper import asked, cell, chain, differ, same, says, start, swap, world

# All of names 1 to 3 apart and none of them 0.
APART = [(differ, 1, 0), (differ, 2, 0), (differ, 3, 0), (differ, 1, 2), (differ, 1, 3), (differ, 2, 3)]


def told(n, before, behind):
    calls = [start(n)] + [fact(0, x, y) for fact, x, y in before] + [fact(1, x, y) for fact, x, y in behind]
    return calls


class Says(unittest.TestCase):
    def holds(self, n, before, behind):
        self.assertEqual(asked(told(n, before, behind) + [says()]), [1])

    def fails(self, n, before, behind, names, heap):
        self.assertEqual(asked(told(n, before, behind) + [says()]), [0] + world(names, heap))

    def test_empty_tellings(self):
        self.assertEqual(answers([15]), [1, 1])
        for n in (1, 2, 3, 4):
            self.holds(n, [], [])

    def test_itself_in_another_order(self):
        self.holds(4, [(cell, 1, 2), (chain, 2, 3), (differ, 4, 1)], [(differ, 1, 4), (chain, 2, 3), (cell, 1, 2)])

    def test_same_and_differ(self):
        self.holds(3, [(same, 1, 2), (same, 2, 3)], [(same, 3, 1)])
        self.fails(3, [(same, 1, 2)], [(same, 3, 1)], [0, 0, 1], {})
        self.holds(3, [(cell, 1, 0), (cell, 2, 0)], [(cell, 2, 0), (cell, 1, 0), (differ, 1, 2), (differ, 1, 0)])
        self.fails(2, [], [(differ, 1, 2)], [0, 0], {})
        self.fails(2, [(differ, 1, 0)], [(differ, 1, 2)], [1, 1], {})

    def test_a_telling_that_is_so_in_no_world(self):
        self.holds(2, [(differ, 1, 1)], [(cell, 1, 1), (cell, 1, 1)])
        self.fails(2, [], [(differ, 1, 1)], [0, 0], {})

    def test_a_cell_against_a_chain(self):
        self.holds(2, [(cell, 1, 2), (differ, 1, 2)], [(chain, 1, 2)])
        self.holds(1, [(cell, 1, 0)], [(chain, 1, 0)])
        self.fails(2, [(cell, 1, 2)], [(chain, 1, 2)], [1, 1], {1: 1})

    def test_a_chain_against_a_cell(self):
        self.fails(2, [(chain, 1, 2)], [(cell, 1, 2)], [0, 0], {})
        # Only a chain of two cells is against it.
        self.fails(2, [(chain, 1, 2), (differ, 1, 2)], [(cell, 1, 2)], [1, 0], {1: 2, 2: 0})
        self.fails(1, [(chain, 1, 0), (differ, 1, 0)], [(cell, 1, 0)], [1], {1: 2, 2: 0})

    def test_a_chain_against_two_chains(self):
        self.fails(2, [(chain, 1, 0)], [(chain, 1, 2), (chain, 2, 0)], [0, 1], {})
        self.fails(3, [(chain, 1, 2)], [(chain, 1, 3), (chain, 3, 2)], [0, 0, 1], {})
        before = [(chain, 1, 2), (differ, 1, 2), (differ, 3, 0), (differ, 2, 3)]
        self.fails(3, before, [(chain, 1, 3), (chain, 3, 2)], [1, 0, 2], {1: 0})

    def test_two_chains_against_a_chain(self):
        self.holds(2, [(chain, 1, 2), (chain, 2, 0)], [(chain, 1, 0)])
        self.holds(4, [(chain, 1, 2), (chain, 2, 3), (chain, 3, 0)], [(chain, 1, 0)])
        self.holds(4, [(chain, 1, 2), (chain, 2, 3), (chain, 3, 0)], [(chain, 2, 0), (chain, 1, 2)])
        self.fails(3, [(chain, 1, 3), (chain, 3, 2)], [(chain, 1, 2)], [1, 1, 2], {1: 2, 2: 1})
        self.holds(3, [(chain, 1, 2), (chain, 2, 3), (cell, 3, 0)], [(chain, 1, 3), (cell, 3, 0)])
        self.holds(3, [(cell, 1, 2), (cell, 2, 0)], [(chain, 1, 0)])

    def test_an_end_that_lies_in_the_first_chain(self):
        # Name 3 is not where a piece begins: it reaches into the first chain.
        before = [(differ, 1, 2), (differ, 1, 3), (differ, 2, 3), (chain, 1, 2), (chain, 2, 3)]
        self.fails(3, before, [(chain, 1, 3)], [1, 2, 3], {1: 3, 2: 3, 3: 2})

    def test_against_the_empty_telling(self):
        self.fails(2, [(chain, 1, 2)], [], [1, 0], {1: 0})
        self.fails(1, [(cell, 1, 1)], [], [1], {1: 1})
        self.holds(2, [(chain, 1, 2), (same, 1, 2)], [])
        self.holds(2, [(chain, 1, 2), (chain, 1, 2)], [])
        self.fails(2, [], [(cell, 1, 0)], [0, 0], {})
        self.holds(2, [], [(chain, 1, 1), (chain, 0, 0)])

    def test_a_chain_taken_apart_by_its_first_cell(self):
        before = [(chain, 1, 0), (differ, 1, 0)]
        self.fails(2, before, [(cell, 1, 2), (chain, 2, 0)], [1, 0], {1: 2, 2: 0})
        self.fails(2, before + [(differ, 2, 0)], [(cell, 1, 2), (chain, 2, 0)], [1, 1], {1: 0})
        self.holds(2, [(cell, 1, 2), (chain, 2, 0)], before)

    def test_a_cycle(self):
        self.holds(2, [(chain, 1, 2), (chain, 2, 1)], [(chain, 2, 1), (chain, 1, 2)])
        self.fails(2, [(cell, 1, 2), (chain, 2, 1)], [(chain, 1, 2), (chain, 2, 1)], [1, 1], {1: 1})
        self.holds(2, [(cell, 1, 2), (chain, 2, 1), (differ, 1, 2)], [(chain, 1, 2), (chain, 2, 1)])

    def test_swapped(self):
        calls = told(2, [(chain, 1, 0)], [(chain, 1, 2), (chain, 2, 0)])
        self.assertEqual(asked(calls + [says()]), [0] + world([0, 1], {}))
        self.assertEqual(asked(calls + [swap(), says()]), [1])

    def test_steps_do_not_matter(self):
        calls = told(1, [(chain, 1, 0), (differ, 1, 0)], [(cell, 1, 0)])
        for many in range(5):
            self.assertEqual(asked(calls + [[10, 1]] * many + [says()]), [0] + world([1], {1: 2, 2: 0}))


class FirstPlainWorld(unittest.TestCase):
    """There are several in which it isn't so: the first in the order is answered."""

    def first(self, n, before, behind):
        return asked(told(n, before, behind) + [says()])

    def test_names_come_ahead_of_chains(self):
        # With names 1, 0 a long chain is against it; with names 1, 2 a short one would be.
        before = [(chain, 1, 0), (differ, 1, 0)]
        self.assertEqual(self.first(2, before, [(cell, 1, 0), (same, 2, 0)]), [0] + world([1, 0], {1: 2, 2: 0}))

    def test_the_lesser_name_comes_first(self):
        self.assertEqual(self.first(3, [], [(same, 1, 2)]), [0] + world([0, 1, 0], {}))
        self.assertEqual(self.first(3, [], [(same, 2, 3), (same, 1, 0)]), [0] + world([0, 0, 1], {}))
        self.assertEqual(self.first(3, [(differ, 1, 0)], [(same, 2, 0)]), [0] + world([1, 1, 0], {}))

    def test_a_name_comes_ahead_of_the_free_number(self):
        before = APART[:2] + [(differ, 1, 2), (chain, 1, 0)]
        self.assertEqual(self.first(2, before, [(cell, 1, 0)]), [0] + world([1, 2], {1: 2, 2: 0}))

    def test_the_lesser_name_within_a_chain_comes_first(self):
        before = APART + [(chain, 1, 0)]
        self.assertEqual(self.first(3, before, [(cell, 1, 0)]), [0] + world([1, 2, 3], {1: 2, 2: 0}))

    def test_the_end_comes_first(self):
        # The cell at 1 holds its end, 2; only the cell behind that can be turned ahead of it.
        before = [(differ, 1, 2), (differ, 2, 0), (chain, 1, 2), (chain, 2, 0)]
        behind = [(chain, 1, 2), (cell, 2, 0)]
        self.assertEqual(self.first(2, before, behind), [0] + world([1, 2], {1: 2, 2: 3, 3: 0}))

    def test_the_last_chain_grows_first(self):
        before = [(differ, 1, 0), (differ, 2, 0), (chain, 2, 0), (chain, 1, 0)]
        behind = [(cell, 1, 0), (cell, 2, 0)]
        self.assertEqual(self.first(2, before, behind), [0] + world([1, 2], {1: 3, 2: 0, 3: 0}))
        before = [(differ, 1, 0), (differ, 2, 0), (chain, 1, 0), (chain, 2, 0)]
        self.assertEqual(self.first(2, before, behind), [0] + world([1, 2], {1: 0, 2: 3, 3: 0}))

    def test_the_first_chain_grows_if_the_last_does_not_matter(self):
        before = [(differ, 1, 0), (differ, 2, 0), (chain, 1, 0), (chain, 2, 0)]
        behind = [(cell, 1, 0), (chain, 2, 0)]
        self.assertEqual(self.first(2, before, behind), [0] + world([1, 2], {1: 3, 2: 0, 3: 0}))

    def test_free_numbers_in_the_order_of_their_cells(self):
        # The first chain must be longer than one cell, and the second one too.
        before = [(chain, 1, 3), (cell, 3, 1), (chain, 2, 0), (differ, 1, 3), (differ, 2, 0)]
        behind = [(chain, 1, 3), (cell, 3, 1), (cell, 2, 0)]
        self.assertEqual(self.first(3, before, behind), [0] + world([1, 2, 3], {1: 3, 2: 4, 3: 1, 4: 0}))

    def test_a_world_of_four_names(self):
        before = [(chain, 4, 1), (cell, 1, 4), (differ, 4, 1), (differ, 2, 3)]
        behind = [(chain, 4, 1), (chain, 1, 4), (same, 2, 0)]
        self.assertEqual(self.first(4, before, behind), [0] + world([1, 1, 0, 2], {1: 2, 2: 1}))


if __name__ == "__main__":
    unittest.main()
