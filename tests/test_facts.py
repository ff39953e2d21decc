"""Point 2: same, differ, cell, chain and clear."""

import unittest

from tests.helper import FACTS, TOP, cell, chain, clear, differ, firsts, last, new, same, start

NOT_CHAINS = (same, differ, cell)


class OrdinaryFacts(unittest.TestCase):
    def test_each_kind_answers_how_many(self):
        for fact in FACTS:
            for p in (0, 1):
                self.assertEqual(firsts([fact(p, 1, 2), fact(p, 2, 3), fact(p, 3, 0)]), [1, 2, 3])

    def test_every_two_names(self):
        for fact in FACTS:
            for x in range(4):
                for y in range(4):
                    self.assertEqual(firsts([fact(0, x, y), fact(1, x, y)]), [1, 1])

    def test_kinds_are_counted_together(self):
        calls = [same(0, 1, 2), differ(0, 1, 2), cell(0, 1, 2), chain(0, 1, 2), same(0, 1, 2)]
        self.assertEqual(firsts(calls), [1, 2, 3, 4, 5])

    def test_tellings_are_counted_apart(self):
        calls = [same(0, 1, 2), same(1, 1, 2), cell(1, 1, 2), chain(0, 1, 2), differ(1, 1, 2)]
        self.assertEqual(firsts(calls), [1, 1, 2, 2, 3])


class RefusedFacts(unittest.TestCase):
    def test_no_such_telling(self):
        for fact in FACTS:
            for p in (2, 3, 4, 256, TOP - 1, TOP):
                self.assertEqual(firsts([fact(p, 1, 2)]), [-1], p)

    def test_no_such_name(self):
        for fact in FACTS:
            for n in (1, 2, 3, 4):
                for p in (0, 1):
                    self.assertEqual(firsts([start(n), fact(p, n, 0), fact(p, 0, n)])[1:], [1, 2])
                    for name in (n + 1, n + 2, n + 256, TOP):
                        calls = [start(n), fact(p, name, 0), fact(p, 0, name), fact(p, name, name)]
                        self.assertEqual(firsts(calls)[1:], [-2, -2, -2])

    def test_names_after_a_start_with_another_n(self):
        for fact in FACTS:
            calls = [start(4), fact(0, 4, 4), start(2), fact(0, 3, 0), fact(0, 0, 3), fact(0, 2, 2)]
            self.assertEqual(firsts(calls), [4, 1, 2, -2, -2, 1])
            calls = [start(1), fact(0, 2, 0), start(4), fact(0, 4, 3), fact(0, 5, 0)]
            self.assertEqual(firsts(calls), [1, -2, 4, 1, -2])

    def test_the_eighth_and_the_ninth_fact(self):
        for fact in NOT_CHAINS:
            for p in (0, 1):
                calls = [fact(p, 1, 2)] * 9 + [chain(p, 1, 2), fact(p, 1, 2)]
                self.assertEqual(firsts(calls), [1, 2, 3, 4, 5, 6, 7, 8, -5, -5, -5])

    def test_a_chain_as_the_eighth_fact(self):
        calls = [same(0, 1, 2)] * 7 + [chain(0, 1, 2), same(0, 1, 2)]
        self.assertEqual(firsts(calls)[-3:], [7, 8, -5])

    def test_the_third_and_the_fourth_chain(self):
        for p in (0, 1):
            calls = [chain(p, 1, 2)] * 5 + [cell(p, 1, 2), chain(p, 1, 2)]
            self.assertEqual(firsts(calls), [1, 2, 3, -5, -5, 4, -5])

    def test_chains_among_other_facts(self):
        calls = [same(0, 1, 2), chain(0, 1, 2), cell(0, 1, 2), chain(0, 2, 3), differ(0, 1, 2), chain(0, 3, 0)]
        self.assertEqual(firsts(calls + [chain(0, 1, 0), same(0, 1, 1)])[-3:], [6, -5, 7])

    def test_the_other_telling_is_not_counted(self):
        calls = [chain(0, 1, 2)] * 3 + [chain(1, 1, 2)] * 4 + [chain(0, 1, 2)]
        self.assertEqual(firsts(calls), [1, 2, 3, 1, 2, 3, -5, -5])
        calls = [same(1, 1, 2)] * 8 + [same(0, 1, 2)] * 9
        self.assertEqual(firsts(calls), [1, 2, 3, 4, 5, 6, 7, 8] * 2 + [-5])

    def test_steps_are_not_counted(self):
        self.assertEqual(last([new(1)] * 4 + [same(0, 1, 2)] * 8), 8)

    def test_refused_facts_are_not_there(self):
        refused = [same(2, 1, 2), cell(0, 4, 1), chain(1, 1, 4), differ(TOP, TOP, TOP)]
        self.assertEqual(firsts(refused + [same(0, 1, 2), same(1, 1, 2)])[-2:], [1, 1])
        full = [chain(0, 1, 2)] * 3 + [chain(0, 1, 2)] * 2 + [same(0, 1, 2)] * 6
        self.assertEqual(firsts(full + [clear(0)])[-2:], [-5, 8])


class SeveralRefusals(unittest.TestCase):
    """The order: no such telling, no such name, no room."""

    def test_telling_ahead_of_name(self):
        for fact in FACTS:
            for names in ((4, 0), (0, 4), (TOP, TOP)):
                self.assertEqual(firsts([fact(2, names[0], names[1])]), [-1])

    def test_telling_ahead_of_room(self):
        full = [same(0, 1, 2)] * 8 + [same(1, 1, 2)] * 8
        for fact in FACTS:
            self.assertEqual(last(full + [fact(2, 1, 2)]), -1)
            self.assertEqual(last(full + [fact(2, 4, 2)]), -1)

    def test_name_ahead_of_room(self):
        for fact in FACTS:
            for names in ((4, 0), (0, 4), (TOP, TOP)):
                self.assertEqual(last([same(0, 1, 2)] * 8 + [fact(0, names[0], names[1])]), -2)

    def test_name_ahead_of_chains(self):
        for names in ((4, 0), (0, 4)):
            self.assertEqual(last([chain(1, 1, 2)] * 3 + [chain(1, names[0], names[1])]), -2)


class Clear(unittest.TestCase):
    def test_answers_how_many_it_had(self):
        for p in (0, 1):
            for many in range(9):
                self.assertEqual(last([differ(p, 1, 2)] * many + [clear(p)]), many)

    def test_is_empty_then(self):
        for p in (0, 1):
            calls = [cell(p, 1, 2), chain(p, 1, 2), clear(p), clear(p), same(p, 1, 2)]
            self.assertEqual(firsts(calls), [1, 2, 2, 0, 1])

    def test_leaves_the_other_telling_the_names_and_the_program(self):
        for p in (0, 1):
            calls = [start(2), same(p, 1, 2), same(1 - p, 1, 2), new(1), clear(p), new(1), same(p, 3, 0)]
            self.assertEqual(firsts(calls + [clear(1 - p)])[3:], [1, 1, 2, -2, 1])

    def test_makes_room_again(self):
        self.assertEqual(last([same(0, 1, 2)] * 8 + [clear(0), same(0, 1, 2)]), 1)
        self.assertEqual(firsts([chain(0, 1, 2)] * 4 + [clear(0)] + [chain(0, 1, 2)] * 4)[4:], [3, 1, 2, 3, -5])

    def test_no_such_telling(self):
        for p in (2, 3, 256, TOP):
            calls = [same(0, 1, 2), same(1, 1, 2), same(1, 1, 2), clear(p), clear(0), clear(1)]
            self.assertEqual(firsts(calls)[3:], [-1, 1, 2], p)


if __name__ == "__main__":
    unittest.main()
