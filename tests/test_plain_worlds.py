"""The order of plain worlds by itself."""

import unittest

from pieceheaps.plain import PlainWorlds
from tests.helper import every_world, plain_rank

SAME, DIFFER, CELL, CHAIN = 1, 2, 3, 4


def plain_worlds(facts, n, most):
    """All plain worlds of a telling in the order in which the program goes through them."""
    worlds = PlainWorlds(facts, n, most)
    found = []
    while worlds.go_on():
        found.append((worlds.names[1:], dict(worlds.heap)))
    return found


def by_rank(facts, n, most, worlds):
    """Those of the worlds that are plain, in the document's order."""
    ranked = []
    for names, heap in worlds:
        rank = plain_rank(facts, names, heap, most)
        if rank is not None:
            ranked.append((rank, (names[1:], heap)))
    return [told for rank, told in sorted(ranked, key=lambda pair: pair[0])]


class Names(unittest.TestCase):
    def test_the_lesser_first(self):
        self.assertEqual(plain_worlds([], 1, 2), [([0], {}), ([1], {})])
        rows = [[0, 0], [0, 1], [1, 0], [1, 1], [1, 2]]
        self.assertEqual(plain_worlds([], 2, 2), [(row, {}) for row in rows])
        rows = [[0, 0, 0], [0, 0, 1], [0, 1, 0], [0, 1, 1], [0, 1, 2], [1, 0, 0], [1, 0, 1], [1, 0, 2], [1, 1, 0],
                [1, 1, 1], [1, 1, 2], [1, 2, 0], [1, 2, 1], [1, 2, 2], [1, 2, 3]]
        self.assertEqual(plain_worlds([], 3, 2), [(row, {}) for row in rows])
        self.assertEqual(len(plain_worlds([], 4, 2)), 52)

    def test_only_those_in_which_it_is_so(self):
        self.assertEqual(plain_worlds([(DIFFER, 1, 0), (SAME, 2, 1)], 2, 2), [([1, 1], {})])
        self.assertEqual(plain_worlds([(DIFFER, 1, 1)], 2, 2), [])
        self.assertEqual(plain_worlds([(CELL, 1, 2)], 2, 2), [([1, 0], {1: 0}), ([1, 1], {1: 1}), ([1, 2], {1: 2})])


class Chains(unittest.TestCase):
    def test_one_name(self):
        expected = [([0], {}), ([1], {1: 0}), ([1], {1: 2, 2: 0}), ([1], {1: 2, 2: 3, 3: 0})]
        for most in (1, 2, 3):
            self.assertEqual(plain_worlds([(CHAIN, 1, 0)], 1, most), expected[:most + 1])

    def test_the_end_then_a_name_then_the_free_number(self):
        expected = [
            ([0, 0], {}),
            ([0, 1], {}),
            ([1, 0], {1: 0}),
            ([1, 0], {1: 2, 2: 0}),
            ([1, 1], {1: 0}),
            ([1, 1], {1: 2, 2: 0}),
            ([1, 2], {1: 0}),
            ([1, 2], {1: 2, 2: 0}),
            ([1, 2], {1: 2, 2: 3, 3: 0}),
            ([1, 2], {1: 3, 3: 0}),
            ([1, 2], {1: 3, 3: 2, 2: 0}),
            ([1, 2], {1: 3, 3: 2, 2: 4, 4: 0}),
        ]
        self.assertEqual(plain_worlds([(CHAIN, 1, 0)], 2, 2), expected)

    def test_names_numbers_rise(self):
        apart = [(DIFFER, 1, 0), (DIFFER, 2, 0), (DIFFER, 3, 0), (DIFFER, 1, 2), (DIFFER, 1, 3), (DIFFER, 2, 3)]
        heaps = [{1: 0}, {1: 2, 2: 0}, {1: 2, 2: 3, 3: 0}, {1: 3, 3: 0}, {1: 3, 3: 2, 2: 0}]
        expected = [([1, 2, 3], heap) for heap in heaps]
        self.assertEqual(plain_worlds(apart + [(CHAIN, 1, 0)], 3, 1), expected)

    def test_the_chains_own_end_is_not_gone_through(self):
        apart = [(DIFFER, 1, 0), (DIFFER, 2, 0), (DIFFER, 1, 2)]
        heaps = [{1: 2}, {1: 3, 3: 2}, {1: 3, 3: 4, 4: 2}]
        self.assertEqual(plain_worlds(apart + [(CHAIN, 1, 2)], 2, 3), [([1, 2], heap) for heap in heaps])

    def test_chain_by_chain_in_the_tellings_order(self):
        facts = [(CHAIN, 2, 0), (DIFFER, 1, 0), (CHAIN, 1, 0), (DIFFER, 2, 0)]
        heaps = [{2: 0, 1: 0}, {2: 0, 1: 3, 3: 0}, {2: 3, 3: 0, 1: 0}, {2: 3, 3: 0, 1: 4, 4: 0}]
        self.assertEqual(plain_worlds(facts, 2, 2), [([1, 2], heap) for heap in heaps])

    def test_an_end_that_another_chain_goes_through(self):
        # Name 3 is the end of the second chain: the first may go through it, the second may not.
        facts = [(DIFFER, 1, 2), (DIFFER, 1, 3), (DIFFER, 2, 3), (CHAIN, 1, 2), (CHAIN, 2, 3), (DIFFER, 3, 0)]
        heaps = [{1: 2, 2: 3}, {1: 3, 3: 2, 2: 3}]
        self.assertEqual(plain_worlds(facts, 3, 1), [([1, 2, 3], heap) for heap in heaps])

    def test_at_most_most_from_a_name_on(self):
        facts = [(DIFFER, 1, 0), (CHAIN, 1, 0), (DIFFER, 2, 0), (DIFFER, 1, 2)]
        for most in (1, 2, 3, 4):
            found = plain_worlds(facts, 2, most)
            self.assertEqual(len(found), most + most * most)
            self.assertEqual(max(len(heap) for names, heap in found), 2 * most)

    def test_how_many_there_are(self):
        self.assertEqual(len(plain_worlds([(CHAIN, 1, 0)], 4, 6)), 14637)
        self.assertEqual(len(plain_worlds([(CHAIN, 1, 0), (CHAIN, 2, 0), (CHAIN, 3, 0)], 4, 6)), 6860)


class AgainstAllWorlds(unittest.TestCase):
    """Every world of small numbers that is plain by the document's words, in its order."""

    def check(self, n, greatest, tellings, most):
        worlds = every_world(n, greatest)
        for facts in tellings:
            found = plain_worlds(facts, n, most)
            small = [told for told in found if max(told[0] + list(told[1]) + [0]) <= greatest]
            self.assertEqual(small, by_rank(facts, n, most, worlds), (facts, most))
            self.assertTrue(found == [] or small != [], facts)

    def test_one_and_two_facts_on_one_name(self):
        facts = [(kind, x, y) for kind in (SAME, DIFFER, CELL, CHAIN) for x in (0, 1) for y in (0, 1)]
        tellings = [[fact] for fact in facts] + [[one, other] for one in facts for other in facts]
        for most in (1, 2, 3):
            self.check(1, 3, tellings, most)

    def test_one_fact_on_two_names(self):
        facts = [[(kind, x, y)] for kind in (SAME, DIFFER, CELL, CHAIN) for x in (0, 1, 2) for y in (0, 1, 2)]
        for most in (1, 2):
            self.check(2, 4, facts, most)

    def test_two_chains_on_two_names(self):
        ends = [(x, y) for x in (1, 2) for y in (0, 1, 2)]
        tellings = [[(CHAIN, a, b), (CHAIN, c, d)] for a, b in ends for c, d in ends]
        self.check(2, 4, tellings[::5], 2)
        self.check(2, 3, tellings, 3)

    def test_three_names(self):
        tellings = [
            [(CHAIN, 1, 0)],
            [(CHAIN, 3, 1)],
            [(CHAIN, 2, 0), (CHAIN, 1, 2)],
            [(CHAIN, 3, 2), (CHAIN, 1, 3), (DIFFER, 2, 3)],
            [(CELL, 1, 2), (CHAIN, 2, 0), (DIFFER, 3, 0)],
            [(CHAIN, 1, 2), (CHAIN, 2, 3), (CHAIN, 3, 1)],
        ]
        self.check(3, 3, tellings, 2)

    def test_four_names(self):
        self.check(4, 3, [[(CHAIN, 4, 2)], [(CHAIN, 1, 0), (CELL, 2, 3)], [(CHAIN, 2, 0), (CHAIN, 4, 1)]], 2)


if __name__ == "__main__":
    unittest.main()
