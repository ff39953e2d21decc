"""triple and safe: every run from every world, and the first plain world and plain run that are against it."""

import unittest

from pieceheaps.desk import answers
from tests.helper import asked, cell, chain, differ, free, let, load, new, safe, same, start, store, triple, world

IDLE = let(1, 1)
LIST = [(chain, 1, 0)]
FULL_LIST = [(chain, 1, 0), (differ, 1, 0)]


def told(n, before, steps, behind):
    calls = [start(n)] + [fact(0, x, y) for fact, x, y in before] + [fact(1, x, y) for fact, x, y in behind]
    return calls + steps


class Asked(unittest.TestCase):
    def holds(self, n, before, steps, behind):
        calls = told(n, before, steps, behind)
        self.assertEqual(asked(calls + [triple()]), [1])
        self.assertEqual(asked(calls + [safe()]), [1])

    def faults(self, n, before, steps, behind, names, heap, places, at):
        """Both are told of the same world and run."""
        calls = told(n, before, steps, behind)
        expected = [0] + world(names, heap) + [len(places)] + places
        self.assertEqual(asked(calls + [triple()]), expected + [1, at])
        self.assertEqual(asked(calls + [safe()]), expected + [at])

    def ends_otherwise(self, n, before, steps, behind, names, heap, places):
        """No fault, but an end that isn't told."""
        calls = told(n, before, steps, behind)
        self.assertEqual(asked(calls + [triple()]), [0] + world(names, heap) + [len(places)] + places + [2])
        self.assertEqual(asked(calls + [safe()]), [1])


class NoSteps(Asked):
    def test_empty(self):
        self.assertEqual(answers([13]), [1, 1])
        self.assertEqual(answers([14]), [1, 1])
        for n in (1, 2, 3, 4):
            self.holds(n, [], [], [])

    def test_as_says(self):
        self.holds(2, [(chain, 1, 2), (chain, 2, 0)], [], LIST)
        self.ends_otherwise(2, LIST, [], [], [1, 0], {1: 0}, [])
        self.ends_otherwise(1, FULL_LIST, [], [(cell, 1, 0)], [1], {1: 2, 2: 0}, [])
        self.ends_otherwise(2, [], [], [(same, 1, 2)], [0, 1], {}, [])

    def test_a_telling_that_is_so_in_no_world(self):
        for steps in ([], [load(1, 0)], [free(1), new(1), free(0), let(1, 2)]):
            self.holds(2, [(differ, 1, 1)], steps, [(differ, 2, 2)])


class Faults(Asked):
    def test_at_each_place_in_the_program(self):
        for step in (load(1, 1), load(1, 0), store(1, 1), store(0, 1), free(1), free(0)):
            for many in (1, 2, 3, 4):
                for at in range(many):
                    steps = [IDLE] * at + [step] + [IDLE] * (many - 1 - at)
                    self.faults(1, [], steps, [], [0], {}, [], at)
                    self.faults(2, [(same, 2, 2)], steps, [(differ, 1, 1)], [0, 0], {}, [], at)

    def test_a_name_that_is_no_cell(self):
        self.faults(1, [(differ, 1, 0)], [load(1, 1)], [], [1], {}, [], 0)
        self.faults(2, [(cell, 1, 0)], [store(2, 1)], [(cell, 1, 0)], [1, 0], {1: 0}, [], 0)
        self.faults(2, [(cell, 1, 0), (differ, 2, 0)], [free(2)], [], [1, 2], {1: 0}, [], 0)
        self.faults(2, [(cell, 1, 2), (differ, 1, 2)], [load(2, 1), load(2, 2)], [], [1, 0], {1: 0}, [], 1)

    def test_a_cell_that_is_gone(self):
        for step in (load(2, 1), store(1, 2), free(1)):
            self.faults(2, [(cell, 1, 2)], [free(1), step], [], [1, 0], {1: 0}, [], 1)
        self.faults(2, [(cell, 1, 2)], [let(2, 1), free(1), free(2)], [], [1, 0], {1: 0}, [], 2)

    def test_walking_over_the_end(self):
        self.faults(1, LIST, [load(1, 1)], [], [0], {}, [], 0)
        for many in (2, 3, 4):
            self.faults(1, FULL_LIST, [load(1, 1)] * many, [], [1], {1: 0}, [], 1)
        before = [(cell, 1, 2), (chain, 2, 0), (differ, 2, 0)]
        for many in (3, 4):
            self.faults(2, before, [load(1, 1)] * many, [], [1, 2], {1: 2, 2: 0}, [], 2)

    def test_a_chain_that_is_too_long(self):
        # Name 3 goes on by two cells: to name 1, whose cell is gone then, or to name 2, whose cell is needed.
        before = [(chain, 1, 2), (cell, 2, 1), (differ, 1, 2)]
        steps = [load(3, 1), load(3, 3), free(3), load(3, 2)]
        calls = told(3, before, steps, [(cell, 2, 1), (same, 3, 1)])
        expected = [0] + world([1, 2, 0], {1: 3, 2: 1, 3: 2}) + [0]
        self.assertEqual(asked(calls + [triple()]), expected + [1, 3])
        self.assertEqual(asked(calls + [safe()]), expected + [3])

    def test_safe_passes_worlds_by_whose_end_is_not_told(self):
        before = [(chain, 1, 2), (cell, 2, 1), (differ, 1, 2)]
        steps = [load(3, 1), load(3, 3), free(3), load(3, 2)]
        calls = told(3, before, steps, [(differ, 1, 1)])
        self.assertEqual(asked(calls + [triple()]), [0] + world([1, 2, 0], {1: 2, 2: 1}) + [0, 2])
        self.assertEqual(asked(calls + [safe()]), [0] + world([1, 2, 0], {1: 3, 2: 1, 3: 2}) + [0, 3])

    def test_safe_passes_runs_by_whose_end_is_not_told(self):
        # The new cell lies where the one was that is gone; or it doesn't, and name 1 is a fault.
        calls = told(2, [(cell, 1, 0)], [free(1), new(2), load(2, 1)], [(differ, 1, 1)])
        self.assertEqual(asked(calls + [triple()]), [0] + world([1, 0], {1: 0}) + [1, 1, 2])
        self.assertEqual(asked(calls + [safe()]), [0] + world([1, 0], {1: 0}) + [1, 2, 2])
        calls = told(2, [(cell, 1, 0)], [free(1), new(2), load(2, 1)], [(cell, 1, 0), (same, 2, 0)])
        self.assertEqual(asked(calls + [triple()]), [0] + world([1, 0], {1: 0}) + [1, 2, 1, 2])


class Holds(Asked):
    """These are so with chains of any length."""

    def test_one_step(self):
        self.holds(2, LIST, [let(2, 1)], [(chain, 2, 0), (same, 1, 2)])
        self.holds(2, FULL_LIST, [load(2, 1)], [(cell, 1, 2), (chain, 2, 0)])
        self.holds(2, [(cell, 1, 2)], [store(1, 0)], [(cell, 1, 0)])
        self.holds(2, [(cell, 1, 2)], [free(1)], [])
        self.holds(2, [], [new(1)], [(cell, 1, 0)])

    def test_put_ahead_of_a_list(self):
        self.holds(2, LIST, [new(2), store(2, 1), let(1, 2)], LIST)
        self.holds(4, LIST, [new(2), store(2, 1), let(1, 2), let(2, 0)], LIST + [(same, 2, 0)])

    def test_take_the_first_of_a_list(self):
        self.holds(2, FULL_LIST, [load(2, 1), free(1), let(1, 2)], LIST)
        self.holds(4, FULL_LIST, [load(2, 1), free(1), let(1, 2)], LIST)

    def test_turn_a_list_round_by_one_cell(self):
        before = FULL_LIST + [(chain, 2, 0)]
        steps = [load(3, 1), store(1, 2), let(2, 1), let(1, 3)]
        self.holds(3, before, steps, [(chain, 2, 0), (chain, 1, 0), (differ, 2, 0)])
        self.holds(4, before, steps, [(chain, 2, 0), (chain, 1, 0), (differ, 2, 0)])

    def test_four_cells_on(self):
        before = [(cell, 1, 2), (cell, 2, 3), (cell, 3, 4), (chain, 4, 0), (differ, 4, 0)]
        steps = [load(1, 1)] * 4
        calls = told(4, before, steps, [])
        self.assertEqual(asked(calls + [safe()]), [1])
        self.assertEqual(asked(calls + [triple()])[-1], 2)

    def test_round_and_round(self):
        before = [(chain, 1, 2), (chain, 2, 1), (differ, 1, 2)]
        for many in range(5):
            steps = [load(1, 1)] * many
            self.assertEqual(asked(told(2, before, steps, []) + [safe()]), [1])

    def test_two_lists_put_together(self):
        self.holds(3, [(chain, 1, 2), (cell, 2, 0), (chain, 3, 0)], [store(2, 3)], LIST)
        before = [(chain, 1, 2), (cell, 2, 0), (chain, 3, 0), (chain, 4, 0)]
        self.holds(4, before, [store(2, 3)], [(chain, 1, 0), (chain, 4, 0)])


class AnEndThatIsNotTold(Asked):
    def test_one_step(self):
        self.ends_otherwise(2, LIST, [let(2, 1)], LIST + [(differ, 1, 2)], [0, 0], {}, [])
        self.ends_otherwise(2, FULL_LIST, [load(2, 1)], [(cell, 1, 2), (cell, 2, 0)], [1, 0], {1: 0}, [])
        self.ends_otherwise(2, FULL_LIST, [load(2, 1)], [(cell, 1, 2), (same, 2, 0)], [1, 0], {1: 2, 2: 0}, [])
        self.ends_otherwise(2, [(cell, 1, 2)], [free(1)], [(cell, 1, 2)], [1, 0], {1: 0}, [])

    def test_a_cell_left_behind(self):
        self.ends_otherwise(2, FULL_LIST, [load(1, 1)], LIST, [1, 0], {1: 0}, [])
        self.ends_otherwise(1, FULL_LIST, [free(1)], [], [1], {1: 2, 2: 0}, [])
        self.ends_otherwise(1, FULL_LIST, [store(1, 0)], [(cell, 1, 0)], [1], {1: 2, 2: 0}, [])

    def test_only_a_chain_as_long_as_that(self):
        # Name 3 comes to rest at name 2, if the chain isn't longer than there are steps.
        before = [(differ, 1, 2), (chain, 1, 2), (cell, 2, 2), (differ, 3, 0)]
        for many in (1, 2, 3, 4):
            steps = [load(3, 1)] + [load(3, 3)] * (many - 1)
            heap = {1: 3, 2: 2}
            for place in range(3, 3 + many):
                heap[place] = place + 1
            heap[2 + many] = 2
            behind = [(chain, 1, 2), (cell, 2, 2), (same, 3, 2)]
            self.ends_otherwise(3, before, steps, behind, [1, 2, 1], heap, [])

    def test_an_end_that_lies_in_the_first_chain(self):
        # The name 3 isn't where a piece begins: it reaches into the first chain.
        before = [(differ, 1, 2), (differ, 1, 3), (differ, 2, 3), (chain, 1, 2), (chain, 2, 3)]
        heap = {1: 3, 2: 3, 3: 2}
        self.ends_otherwise(3, before, [IDLE], [(chain, 1, 3)], [1, 2, 3], heap, [])

    def test_a_name_that_the_telling_does_not_name(self):
        # Name 2 is apart, and no fault if it reaches into the chain.
        before = FULL_LIST + [(differ, 2, 0), (differ, 2, 1)]
        self.faults(2, before, [free(2)], [], [1, 2], {1: 0}, [], 0)
        self.holds(3, FULL_LIST, [load(3, 1), free(1)], [(chain, 3, 0)])
        # The new cell gets the place of name 2 but where that's in the chain.
        steps = [new(3)]
        self.ends_otherwise(3, FULL_LIST, steps, LIST + [(cell, 3, 0), (same, 2, 0)], [1, 1, 0], {1: 0}, [2])
        # The chain goes through name 2 right behind its first cell: taken back from there it's no list.
        before = FULL_LIST + [(differ, 1, 2), (differ, 2, 0)]
        steps = [load(3, 1), free(1)]
        self.ends_otherwise(3, before, steps, [(chain, 3, 0), (differ, 2, 3)], [1, 2, 0], {1: 2, 2: 0}, [])


class NewCells(Asked):
    def test_next_above_all(self):
        self.ends_otherwise(1, [], [new(1)], [], [0], {}, [1])
        self.ends_otherwise(1, LIST, [new(1)], [(cell, 1, 0)], [1], {1: 0}, [2])
        self.ends_otherwise(2, [(same, 1, 1)], [new(1), new(2)], [(cell, 1, 2)], [0, 0], {}, [1, 2])

    def test_at_a_place_that_a_name_is(self):
        self.ends_otherwise(2, [], [new(1)], [(cell, 1, 0), (differ, 1, 2)], [0, 1], {}, [1])
        self.ends_otherwise(2, [], [new(1)], [(cell, 1, 0), (same, 2, 0)], [0, 1], {}, [1])
        before = [(cell, 1, 2), (same, 3, 0)]
        behind = [(cell, 1, 2), (cell, 3, 0), (differ, 2, 3)]
        self.ends_otherwise(3, before, [new(3)], behind, [1, 2, 0], {1: 2}, [2])

    def test_the_name_itself_was_there(self):
        # Name 1 is its own old place, or another one: name 2 keeps the old one.
        behind = [(cell, 1, 0), (differ, 1, 2)]
        self.ends_otherwise(2, [(differ, 1, 0)], [let(2, 1), new(1)], behind, [1, 0], {}, [1])

    def test_at_a_place_that_a_cell_holds(self):
        # Name 2 forgets the place that the cell holds, and gets it from there again.
        before = [(cell, 1, 2), (same, 3, 0)]
        steps = [let(2, 0), new(3), load(2, 1)]
        behind = [(cell, 1, 2), (cell, 3, 0), (differ, 2, 3)]
        self.ends_otherwise(3, before, steps, behind, [1, 2, 0], {1: 2}, [2])

    def test_at_the_place_of_a_cell_that_is_gone(self):
        steps = [let(2, 1), free(1), new(1)]
        self.ends_otherwise(2, [(cell, 1, 0)], steps, [(cell, 1, 0), (differ, 1, 2)], [1, 0], {1: 0}, [1])
        self.ends_otherwise(2, [(cell, 1, 0)], steps, [(cell, 1, 0), (same, 1, 2)], [1, 0], {1: 0}, [2])
        # No fault in the first of its runs, a fault in the second.
        self.faults(2, [(cell, 1, 0)], steps + [load(2, 2)], [(cell, 1, 0)], [1, 0], {1: 0}, [2], 3)

    def test_an_end_of_a_chain_that_is_no_cell(self):
        steps = [new(2), store(2, 1), let(1, 2)]
        self.ends_otherwise(3, [(chain, 1, 3)], steps, [(chain, 1, 3)], [1, 0, 1], {}, [1])
        self.holds(3, [(chain, 1, 3), (cell, 3, 0)], steps, [(chain, 1, 3), (cell, 3, 0)])

    def test_places_rise(self):
        # Of the places 1 and 2, which names are, and 3 the first and the second are tried ahead of the third.
        before = [(differ, 1, 0), (differ, 2, 0), (differ, 1, 2)]
        behind = [(cell, 3, 0), (differ, 1, 3)]
        self.ends_otherwise(3, before, [new(3)], behind, [1, 2, 0], {}, [1])
        behind = [(cell, 3, 0), (same, 1, 3)]
        self.ends_otherwise(3, before, [new(3)], behind, [1, 2, 0], {}, [2])
        behind = [(cell, 3, 0), (differ, 2, 3)]
        self.ends_otherwise(3, before, [new(3)], behind, [1, 2, 0], {}, [2])

    def test_the_last_place_alone(self):
        # It's no fault to reach for name 1's place if the new cell lies there.
        before = [(differ, 1, 0), (same, 1, 2)]
        self.faults(2, before, [new(2), free(1)], [], [1, 1], {}, [2], 1)
        self.faults(2, before, [new(2), free(2), load(2, 1)], [], [1, 1], {}, [1], 2)

    def test_several_behind_one_another(self):
        self.faults(1, [], [new(1), new(1), new(1), free(0)], [], [0], {}, [1, 2, 3], 3)
        self.faults(1, [], [new(1), free(0), new(1), new(1)], [], [0], {}, [1], 1)
        self.faults(1, [], [free(0), new(1)], [], [0], {}, [], 0)
        behind = [(cell, 1, 0), (cell, 2, 0), (cell, 3, 0), (same, 4, 0)]
        self.ends_otherwise(4, [], [new(1), new(2), new(3)], behind, [0, 0, 0, 1], {}, [1, 2, 3])

    def test_the_second_place_is_turned_ahead_of_the_first(self):
        # Names 1 and 2 are places of no cell; names 3 and 4 become new cells.
        before = [(differ, 1, 0), (differ, 2, 0), (differ, 1, 2), (same, 3, 0), (same, 4, 0)]
        steps = [new(3), new(4)]
        cells = [(cell, 3, 0), (cell, 4, 0)]
        self.ends_otherwise(4, before, steps, cells + [(same, 4, 2)], [1, 2, 0, 0], {}, [1, 3])
        self.ends_otherwise(4, before, steps, cells + [(same, 3, 1)], [1, 2, 0, 0], {}, [2, 1])
        self.ends_otherwise(4, before, steps, cells + [(differ, 4, 1)], [1, 2, 0, 0], {}, [2, 1])
        self.ends_otherwise(4, before, steps, cells + [(differ, 3, 1)], [1, 2, 0, 0], {}, [1, 2])

    def test_above_a_long_world(self):
        before = [(chain, 1, 2), (differ, 1, 2), (cell, 2, 2), (same, 3, 0)]
        behind = [(chain, 1, 2), (cell, 2, 2), (cell, 3, 0), (same, 4, 2)]
        self.ends_otherwise(4, before, [new(3), load(4, 1)], behind, [1, 2, 0, 0], {1: 3, 2: 2, 3: 2}, [4])


if __name__ == "__main__":
    unittest.main()
