"""Points 2 and 3: fits, and which numbers are a world."""

import unittest

from pieceheaps.desk import answers
from tests.helper import TOP, asked, cell, chain, differ, firsts, fits, handed, run, same, start


def so(facts, names, heap):
    """Whether fits answers 1, which is the same for both tellings."""
    both = []
    for p in (0, 1):
        told = [start(len(names))] + [fact(p, x, y) for fact, x, y in facts]
        both.append(asked(told + [fits(p, handed(names, heap))]))
    if both not in ([[0], [0]], [[1], [1]]):
        raise AssertionError("neither 0 nor 1 of both: %r" % (both,))
    return both[0] == [1]


class SameAndDiffer(unittest.TestCase):
    def test_an_empty_telling(self):
        self.assertEqual(answers([19, 0, 3, 0, 0, 0]), [1, 1])
        self.assertTrue(so([], [7, 7], {}))
        self.assertTrue(so([], [TOP], {}))
        self.assertFalse(so([], [0], {1: 0}))

    def test_same(self):
        self.assertTrue(so([(same, 1, 2)], [9, 9], {}))
        self.assertFalse(so([(same, 1, 2)], [9, 8], {}))
        self.assertTrue(so([(same, 1, 0)], [0, 8], {}))
        self.assertFalse(so([(same, 0, 2)], [0, 8], {}))
        self.assertTrue(so([(same, 0, 0), (same, 1, 1)], [5, 8], {}))

    def test_differ(self):
        self.assertFalse(so([(differ, 1, 2)], [9, 9], {}))
        self.assertTrue(so([(differ, 1, 2)], [9, 8], {}))
        self.assertFalse(so([(differ, 0, 1)], [0, 8], {}))
        self.assertTrue(so([(differ, 2, 0)], [0, 8], {}))
        self.assertFalse(so([(differ, 1, 1)], [5, 8], {}))

    def test_each_fact_must_be_so(self):
        self.assertFalse(so([(same, 1, 2), (differ, 1, 2)], [9, 9], {}))
        self.assertFalse(so([(differ, 1, 2), (same, 1, 2)], [9, 9], {}))
        self.assertFalse(so([(same, 1, 2), (cell, 1, 0)], [9, 8], {9: 0}))
        self.assertFalse(so([(cell, 1, 0), (same, 1, 2)], [9, 8], {9: 0}))


class Cells(unittest.TestCase):
    def test_one(self):
        self.assertTrue(so([(cell, 1, 2)], [9, 8], {9: 8}))
        self.assertTrue(so([(cell, 1, 0)], [9, 8], {9: 0}))
        self.assertTrue(so([(cell, 1, 1)], [9, 8], {9: 9}))
        self.assertTrue(so([(cell, 1, 2)], [TOP, TOP], {TOP: TOP}))
        self.assertFalse(so([(cell, 1, 2)], [9, 8], {9: 7}))
        self.assertFalse(so([(cell, 1, 2)], [9, 8], {8: 9}))
        self.assertFalse(so([(cell, 1, 2)], [9, 8], {}))
        self.assertFalse(so([(cell, 0, 2)], [9, 8], {9: 8}))
        self.assertFalse(so([(cell, 1, 2)], [0, 8], {9: 8}))

    def test_a_place_taken_twice(self):
        self.assertFalse(so([(cell, 1, 2), (cell, 1, 2)], [9, 8], {9: 8}))
        self.assertFalse(so([(cell, 1, 0), (cell, 2, 0)], [9, 9], {9: 0}))
        self.assertFalse(so([(cell, 1, 0), (cell, 2, 0)], [9, 9], {8: 0, 9: 0}))
        self.assertTrue(so([(cell, 1, 0), (cell, 2, 0)], [9, 8], {8: 0, 9: 0}))

    def test_a_cell_that_is_not_taken(self):
        self.assertFalse(so([(cell, 1, 2)], [9, 8], {8: 0, 9: 8}))
        self.assertFalse(so([(cell, 1, 2)], [9, 8], {9: 8, TOP: 0}))
        self.assertTrue(so([(cell, 1, 2), (cell, 2, 0)], [9, 8], {8: 0, 9: 8}))


class Chains(unittest.TestCase):
    def test_of_no_cell(self):
        self.assertTrue(so([(chain, 1, 2)], [9, 9], {}))
        self.assertTrue(so([(chain, 0, 0), (chain, 1, 1)], [9, 9], {}))
        self.assertTrue(so([(chain, 1, 0)], [0, 9], {}))
        self.assertTrue(so([(chain, 0, 1)], [0, 9], {}))
        self.assertFalse(so([(chain, 1, 2)], [9, 9], {9: 9}))
        self.assertFalse(so([(chain, 1, 2)], [9, 8], {}))
        self.assertFalse(so([(chain, 0, 2)], [9, 8], {9: 8}))
        self.assertTrue(so([(chain, 1, 2), (cell, 1, 0)], [9, 9], {9: 0}))
        self.assertTrue(so([(cell, 1, 0), (chain, 1, 2)], [9, 9], {9: 0}))

    def test_of_one_cell(self):
        self.assertTrue(so([(chain, 1, 2)], [9, 8], {9: 8}))
        self.assertTrue(so([(chain, 1, 0)], [9, 8], {9: 0}))
        self.assertFalse(so([(chain, 1, 2)], [9, 8], {9: 0}))
        self.assertFalse(so([(chain, 1, 2)], [9, 8], {9: 9}))
        self.assertFalse(so([(chain, 1, 2)], [9, 8], {8: 9}))

    def test_of_two_and_three(self):
        self.assertTrue(so([(chain, 1, 2)], [9, 8], {5: 8, 9: 5}))
        self.assertTrue(so([(chain, 1, 2)], [9, 8], {5: 7, 7: 8, 9: 5}))
        self.assertFalse(so([(chain, 1, 2)], [9, 8], {5: 7, 9: 5}))
        self.assertFalse(so([(chain, 1, 2)], [9, 8], {5: 0, 9: 5}))
        self.assertTrue(so([(chain, 1, 0)], [9, 8], {8: 0, 9: 8}))

    def test_of_many(self):
        # 349 cells are the most that 700 numbers tell beside a name or two.
        for many in (300, 349, 350):
            for n in (1, 2):
                heap = {7 * k: 7 * k + 7 for k in range(1, many)}
                heap[7 * many] = 0
                names = [7, 7 * many + 7][:n]
                self.assertTrue(so([(chain, 1, 0)], names, heap))
                heap[7 * many] = 7
                self.assertFalse(so([(chain, 1, 0)], names, heap))

    def test_of_many_to_another_end(self):
        heap = {7 * k: 7 * k + 7 for k in range(1, 349)}
        self.assertEqual(len(handed([7, 2443, 0, 0], heap)), 700)
        self.assertTrue(so([(chain, 1, 2)], [7, 2443, 0, 0], heap))
        self.assertFalse(so([(chain, 1, 2)], [14, 2443, 0, 0], heap))
        self.assertFalse(so([(chain, 1, 2)], [7, 2436, 0, 0], heap))
        self.assertTrue(so([(chain, 1, 2), (cell, 2, 3)], [7, 2436, 2443, 0], heap))

    def test_that_goes_round(self):
        self.assertFalse(so([(chain, 1, 2)], [1, 9], {1: 2, 2: 1}))
        self.assertFalse(so([(chain, 1, 2)], [1, 9], {1: 2, 2: 3, 3: 2}))
        self.assertFalse(so([(chain, 1, 0)], [1, 9], {1: 1}))
        heap = {place: place + 1 for place in range(1, 340)}
        heap[340] = 1
        self.assertFalse(so([(chain, 1, 0)], [1, 9], heap))
        self.assertTrue(so([(chain, 1, 2), (cell, 2, 1)], [1, 340], heap))
        self.assertTrue(so([(chain, 1, 2), (chain, 2, 1)], [1, 170], heap))

    def test_the_end_held_for_the_first_time(self):
        # The chain is over at 2, though what begins there would come back to the same end.
        self.assertFalse(so([(chain, 1, 2)], [1, 3], {1: 2, 2: 3, 3: 4, 4: 3}))
        self.assertFalse(so([(chain, 1, 2)], [1, 2], {1: 2, 2: 3, 3: 2}))
        self.assertTrue(so([(chain, 1, 2), (chain, 2, 3), (cell, 3, 2)], [1, 2, 3], {1: 2, 2: 3, 3: 2}))
        self.assertFalse(so([(chain, 1, 2)], [1, 2], {1: 2, 2: 0}))
        self.assertTrue(so([(chain, 1, 2), (chain, 2, 0)], [1, 2], {1: 2, 2: 0}))
        self.assertTrue(so([(chain, 1, 2), (chain, 3, 0)], [5, 7, 1], {1: 3, 3: 0, 5: 6, 6: 7}))

    def test_a_place_taken_twice(self):
        self.assertFalse(so([(chain, 1, 0), (chain, 2, 0)], [1, 2], {1: 3, 2: 3, 3: 0}))
        self.assertFalse(so([(chain, 1, 0), (chain, 1, 0)], [1, 2], {1: 0}))
        self.assertFalse(so([(chain, 1, 0), (cell, 2, 0)], [1, 2], {1: 2, 2: 0}))
        self.assertFalse(so([(cell, 2, 0), (chain, 1, 0)], [1, 2], {1: 2, 2: 0}))
        self.assertTrue(so([(chain, 1, 2), (cell, 2, 0)], [1, 2], {1: 2, 2: 0}))
        self.assertTrue(so([(chain, 1, 3), (chain, 2, 3), (chain, 3, 0)], [1, 2, 3], {1: 3, 2: 3, 3: 0}))

    def test_a_cell_that_is_not_taken(self):
        self.assertFalse(so([(chain, 1, 0)], [1, 2], {1: 0, 2: 0}))
        self.assertFalse(so([(chain, 1, 0)], [1, 2], {1: 0, 5: 1}))
        self.assertFalse(so([(chain, 1, 0)], [0, 0], {5: 0}))


class NotAWorld(unittest.TestCase):
    def refused(self, n, numbers):
        for calls in ([fits(0, numbers)], [fits(1, numbers)], [run(numbers)]):
            self.assertEqual(asked([start(n)] + calls), [-3], (n, numbers))

    def taken(self, n, numbers):
        for calls in ([fits(0, numbers)], [fits(1, numbers)], [run(numbers)]):
            self.assertIn(asked([start(n)] + calls)[0], (0, 1), (n, numbers))

    def test_too_few_names(self):
        self.refused(1, [])
        self.refused(4, [])
        for n in (2, 3, 4):
            for many in range(n):
                self.refused(n, [1] * many)
            self.taken(n, [1] * n)

    def test_half_a_cell(self):
        for n in (1, 2, 3, 4):
            self.refused(n, [5] * n + [1])
            self.taken(n, [5] * n + [1, 0])
            self.refused(n, [5] * n + [1, 0, 2])
            self.taken(n, [5] * n + [1, 0, 2, 0])

    def test_places_from_1_on(self):
        for n in (1, 4):
            self.refused(n, [0] * n + [0, 0])
            self.refused(n, [0] * n + [0, 0, 1, 0])
            self.refused(n, [0] * n + [1, 0, 0, 0])
            self.taken(n, [0] * n + [1, 0])
            self.taken(n, [0] * n + [TOP, TOP])

    def test_places_rise(self):
        self.refused(2, [1, 1, 2, 0, 1, 0])
        self.refused(2, [1, 1, 2, 0, 2, 0])
        self.refused(2, [1, 1, 2, 0, 3, 0, 3, 0])
        self.refused(2, [1, 1, 2, 0, 3, 0, 1, 0])
        self.refused(2, [1, 1, TOP, 0, TOP, 0])
        self.refused(2, [1, 1, TOP, 0, 1, 0])
        self.taken(2, [1, 1, 2, 9, 3, 1, TOP - 1, 0, TOP, TOP])

    def test_no_cell_at_all(self):
        self.assertEqual(firsts([start(2), fits(0, [4, 4])])[1:], [1])
        self.assertEqual(asked([start(2), run([4, 4])]), [1, 4, 4, 0])

    def test_after_a_start_with_another_n(self):
        numbers = [1, 1, 2, 0]
        calls = [start(2), fits(0, numbers), start(3), fits(0, numbers), start(4), fits(0, numbers), start(1)]
        self.assertEqual(firsts(calls + [fits(0, numbers)]), [2, 0, 3, -3, 4, 1, 1, -3])
        calls = [fits(0, [1, 2]), fits(0, [1, 2, 3]), fits(0, [1, 2, 3, 4]), fits(0, [1, 2, 3, 4, 5])]
        self.assertEqual(firsts(calls), [-3, 1, -3, 0])

    def test_700_numbers(self):
        numbers = [0, 0]
        for place in range(1, 350):
            numbers += [place, 0]
        self.assertEqual(len(numbers), 700)
        self.taken(2, numbers)
        self.taken(4, numbers[:2] + numbers)
        self.refused(3, numbers)
        numbers[-2] = 348
        self.refused(2, numbers)

    def test_refusals_of_fits(self):
        for p in (2, 3, 256, TOP):
            self.assertEqual(firsts([fits(p, [1, 2, 3]), fits(p, []), fits(p, [1, 2, 3, 0, 0])]), [-1, -1, -1])
        self.assertEqual(firsts([fits(0, []), fits(1, [1, 2, 3, 4])]), [-3, -3])

    def test_the_call_behind_it_is_found(self):
        calls = [fits(0, [1, 2, 3, 4]), fits(2, [19, 19]), run([1]), run([]), fits(1, [0, 0, 0]), same(0, 1, 1)]
        self.assertEqual(firsts(calls), [-3, -1, -3, -3, 1, 1])


if __name__ == "__main__":
    unittest.main()
