"""Points 2 and 3: can and surely."""

import unittest

from pieceheaps.desk import answers
from tests.helper import TOP, asked, can, cell, chain, differ, firsts, joined, same, start, surely, taken_apart, world


def first_world(n, facts):
    """What can answers of a telling, which is the same for both."""
    both = []
    for p in (0, 1):
        both.append(asked([start(n)] + [fact(p, x, y) for fact, x, y in facts] + [can(p)]))
    if both[0] != both[1]:
        raise AssertionError("the tellings are not alike: %r" % (both,))
    return both[0]


def sure(n, facts, x, y):
    """What surely answers of a telling, which is the same for both, and for the names turned round."""
    found = set()
    for p in (0, 1):
        told = [start(n)] + [fact(p, a, b) for fact, a, b in facts]
        found.add(tuple(asked(told + [surely(p, x, y)])))
        found.add(tuple(asked(told + [surely(p, y, x)])))
    if len(found) != 1:
        raise AssertionError("not alike: %r" % (found,))
    return list(found.pop())


class Can(unittest.TestCase):
    def test_an_empty_telling(self):
        self.assertEqual(answers([17, 0]), [5, 1, 0, 0, 0, 0])
        for n in (1, 2, 3, 4):
            self.assertEqual(first_world(n, []), [1] + [0] * n + [0])

    def test_a_telling_that_is_so_in_no_world(self):
        never = (
            [(differ, 1, 1)],
            [(differ, 0, 0)],
            [(cell, 0, 1)],
            [(cell, 0, 0)],
            [(chain, 0, 1), (differ, 0, 1)],
            [(cell, 1, 0), (same, 1, 0)],
            [(chain, 1, 2), (same, 1, 0), (differ, 2, 0)],
            [(cell, 1, 0), (cell, 1, 0)],
            [(cell, 1, 0), (cell, 2, 0), (same, 1, 2)],
            [(cell, 1, 2), (chain, 1, 0)],
            [(chain, 1, 0), (chain, 1, 0), (differ, 1, 0)],
            [(chain, 1, 2), (chain, 2, 1), (same, 1, 2), (differ, 2, 1)],
            [(same, 1, 2), (differ, 2, 1)],
        )
        for facts in never:
            self.assertEqual(first_world(2, facts), [0], facts)
            self.assertEqual(first_world(4, facts), [0], facts)

    def test_same_and_differ(self):
        self.assertEqual(first_world(3, [(differ, 2, 0)]), [1] + world([0, 1, 0], {}))
        self.assertEqual(first_world(3, [(differ, 1, 2)]), [1] + world([0, 1, 0], {}))
        self.assertEqual(first_world(3, [(differ, 1, 0), (same, 1, 3)]), [1] + world([1, 0, 1], {}))
        facts = [(differ, 1, 2), (differ, 2, 3), (differ, 3, 1)]
        self.assertEqual(first_world(3, facts), [1] + world([0, 1, 2], {}))
        facts += [(differ, 0, 1), (differ, 0, 2), (differ, 0, 3)]
        self.assertEqual(first_world(3, facts), [1] + world([1, 2, 3], {}))

    def test_cells(self):
        self.assertEqual(first_world(1, [(cell, 1, 0)]), [1] + world([1], {1: 0}))
        self.assertEqual(first_world(1, [(cell, 1, 1)]), [1] + world([1], {1: 1}))
        self.assertEqual(first_world(2, [(cell, 1, 2)]), [1] + world([1, 0], {1: 0}))
        self.assertEqual(first_world(2, [(cell, 2, 1)]), [1] + world([0, 1], {1: 0}))
        self.assertEqual(first_world(2, [(cell, 2, 1), (cell, 1, 2)]), [1] + world([1, 2], {1: 2, 2: 1}))
        self.assertEqual(first_world(4, [(cell, 4, 2), (cell, 2, 4)]), [1] + world([0, 1, 0, 2], {1: 2, 2: 1}))

    def test_chains(self):
        self.assertEqual(first_world(1, [(chain, 1, 0)]), [1] + world([0], {}))
        self.assertEqual(first_world(1, [(chain, 1, 0), (differ, 1, 0)]), [1] + world([1], {1: 0}))
        self.assertEqual(first_world(2, [(chain, 1, 2)]), [1] + world([0, 0], {}))
        self.assertEqual(first_world(2, [(chain, 0, 1)]), [1] + world([0, 0], {}))
        self.assertEqual(first_world(2, [(chain, 1, 2), (differ, 1, 2)]), [1] + world([1, 0], {1: 0}))
        facts = [(chain, 1, 2), (differ, 1, 2), (differ, 2, 0)]
        self.assertEqual(first_world(2, facts), [1] + world([1, 2], {1: 2}))
        # A chain begins where a name is, and holds its end at once though another name could lie between.
        facts = [(chain, 1, 0), (differ, 1, 2), (differ, 2, 0), (differ, 1, 0)]
        self.assertEqual(first_world(2, facts), [1] + world([1, 2], {1: 0}))

    def test_cells_and_chains(self):
        facts = [(cell, 1, 2), (chain, 1, 3)]
        self.assertEqual(first_world(3, facts), [1] + world([1, 0, 1], {1: 0}))
        facts = [(chain, 1, 2), (chain, 2, 1), (differ, 1, 2)]
        self.assertEqual(first_world(3, facts), [1] + world([1, 2, 0], {1: 2, 2: 1}))
        facts = [(cell, 1, 2), (chain, 2, 3), (differ, 2, 3), (chain, 4, 1), (differ, 4, 1)]
        self.assertEqual(first_world(4, facts), [1] + world([1, 2, 0, 3], {1: 2, 2: 0, 3: 1}))
        facts = [(cell, 4, 4), (chain, 3, 4), (chain, 2, 3), (chain, 1, 2)]
        facts += [(differ, 3, 4), (differ, 2, 3), (differ, 1, 2)]
        self.assertEqual(first_world(4, facts), [1] + world([1, 2, 3, 4], {1: 2, 2: 3, 3: 4, 4: 4}))
        self.assertEqual(first_world(4, facts[:4]), [1] + world([1, 1, 1, 1], {1: 1}))

    def test_the_other_telling_is_not_asked(self):
        calls = [cell(0, 1, 0), differ(1, 1, 1), can(0), can(1)]
        self.assertEqual(taken_apart(answers(joined(calls)))[2:], [[1] + world([1, 0, 0], {1: 0}), [0]])

    def test_no_such_telling(self):
        for p in (2, 3, 256, TOP):
            self.assertEqual(asked([can(p)]), [-1])
            self.assertEqual(asked([differ(0, 1, 1), differ(1, 1, 1), can(p)]), [-1])


class Surely(unittest.TestCase):
    def test_an_empty_telling(self):
        self.assertEqual(answers([18, 0, 1, 2]), [1, 2])
        for n in (1, 2, 3, 4):
            for x in range(n + 1):
                for y in range(n + 1):
                    self.assertEqual(sure(n, [], x, y), [1 if x == y else 2])

    def test_same_and_differ(self):
        facts = [(same, 1, 2), (same, 2, 3)]
        self.assertEqual(sure(4, facts, 1, 3), [1])
        self.assertEqual(sure(4, facts, 1, 4), [2])
        self.assertEqual(sure(4, facts + [(differ, 4, 2)], 3, 4), [0])
        self.assertEqual(sure(4, facts + [(differ, 4, 2)], 0, 4), [2])
        self.assertEqual(sure(4, facts + [(same, 4, 0), (differ, 4, 2)], 0, 1), [0])

    def test_a_cell_is_at_no_name_that_is_0(self):
        self.assertEqual(sure(2, [(cell, 1, 2)], 1, 0), [0])
        self.assertEqual(sure(2, [(cell, 1, 2)], 2, 0), [2])
        self.assertEqual(sure(2, [(cell, 1, 2)], 1, 2), [2])
        self.assertEqual(sure(2, [(cell, 1, 2)], 1, 1), [1])

    def test_two_cells_are_at_two_places(self):
        self.assertEqual(sure(3, [(cell, 1, 3), (cell, 2, 3)], 1, 2), [0])
        self.assertEqual(sure(3, [(cell, 1, 3), (cell, 2, 3)], 1, 3), [2])

    def test_a_chain_at_0_or_at_a_cell_has_no_cell(self):
        self.assertEqual(sure(2, [(chain, 0, 1)], 0, 1), [1])
        self.assertEqual(sure(3, [(cell, 1, 3), (chain, 1, 2)], 1, 2), [1])
        self.assertEqual(sure(3, [(cell, 1, 3), (chain, 1, 2)], 2, 0), [0])
        self.assertEqual(sure(3, [(cell, 1, 3), (chain, 2, 3)], 1, 2), [2])
        self.assertEqual(sure(3, [(cell, 1, 3), (chain, 2, 3), (differ, 2, 3)], 1, 2), [0])

    def test_of_two_chains_at_one_place_one_has_no_cell(self):
        facts = [(chain, 1, 2), (chain, 1, 3)]
        self.assertEqual(sure(3, facts, 1, 2), [2])
        self.assertEqual(sure(3, facts, 2, 3), [2])
        self.assertEqual(sure(3, facts + [(differ, 1, 2)], 1, 3), [1])
        self.assertEqual(sure(3, facts + [(differ, 1, 2)], 2, 3), [0])
        self.assertEqual(sure(3, [(chain, 1, 2), (chain, 1, 2)], 1, 2), [1])
        self.assertEqual(sure(4, [(chain, 1, 2), (chain, 1, 2), (cell, 3, 0), (chain, 3, 2)], 1, 3), [1])

    def test_no_world(self):
        for facts in ([(differ, 1, 1)], [(cell, 0, 1)], [(cell, 1, 2), (cell, 1, 3)]):
            for x in range(4):
                for y in range(4):
                    self.assertEqual(sure(3, facts, x, y), [-6])

    def test_no_such_name(self):
        for n in (1, 2, 3, 4):
            for p in (0, 1):
                calls = [start(n), surely(p, n, 0), surely(p, n, n)]
                calls += [surely(p, n + 1, 0), surely(p, 0, n + 1), surely(p, TOP, 1), surely(p, n + 2, n + 2)]
                self.assertEqual(firsts(calls)[1:], [2, 1, -2, -2, -2, -2])
        calls = [start(4), surely(0, 4, 4), start(2), surely(0, 3, 3), surely(0, 2, 2)]
        self.assertEqual(firsts(calls), [4, 1, 2, -2, 1])

    def test_no_such_telling(self):
        for p in (2, 3, 256, TOP):
            self.assertEqual(firsts([surely(p, 1, 2)]), [-1])

    def test_several_refusals(self):
        never = [differ(0, 1, 1), differ(1, 1, 1)]
        self.assertEqual(firsts(never + [surely(2, 4, 4), surely(2, 1, 1), surely(TOP, 1, TOP)])[2:], [-1, -1, -1])
        self.assertEqual(firsts(never + [surely(0, 4, 1), surely(1, 1, 4), surely(0, 3, 3)])[2:], [-2, -2, -6])
        self.assertEqual(firsts([surely(2, 4, 4), surely(0, 4, 4)]), [-1, -2])

    def test_the_other_telling_is_not_asked(self):
        calls = [same(0, 1, 2), differ(1, 1, 2), surely(0, 1, 2), surely(1, 1, 2)]
        self.assertEqual(firsts(calls)[2:], [1, 0])
        self.assertEqual(firsts([differ(1, 1, 1), surely(0, 1, 2), surely(1, 1, 2)])[1:], [2, -6])


if __name__ == "__main__":
    unittest.main()
