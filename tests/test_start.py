"""Point 1: start."""

import unittest

from tests.helper import TOP, chain, clear, differ, firsts, free, last, let, new, same, start, store


class Start(unittest.TestCase):
    def test_answers_n(self):
        for n in (1, 2, 3, 4):
            self.assertEqual(firsts([start(n)]), [n])

    def test_refused_below_1_and_above_4(self):
        for n in (0, 5, 6, 7, 255, 256, TOP - 1, TOP):
            self.assertEqual(firsts([start(n)]), [-1], n)

    def test_names_are_0_to_n(self):
        for n in (1, 2, 3, 4):
            for name in range(n + 1):
                self.assertEqual(last([start(n), same(0, name, name)]), 1)
                self.assertEqual(last([start(n), free(name)]), 1)
            for name in (n + 1, n + 2, TOP):
                self.assertEqual(last([start(n), same(0, name, 0)]), -2)
                self.assertEqual(last([start(n), free(name)]), -2)

    def test_empties_tellings_and_program(self):
        filled = [same(0, 1, 1), chain(0, 1, 2), differ(1, 0, 1), let(1, 0), new(2)]
        for n in (1, 2, 3, 4):
            calls = filled + [start(n), clear(0), clear(1), free(0)]
            self.assertEqual(firsts(calls)[-4:], [n, 0, 0, 1])

    def test_makes_room_again(self):
        full = [chain(0, 1, 2)] * 3 + [chain(1, 1, 2)] * 3 + [new(1)] * 4
        again = [chain(0, 1, 2), chain(1, 1, 2), new(1)]
        self.assertEqual(firsts(full + again)[-3:], [-5, -5, -5])
        self.assertEqual(firsts(full + [start(3)] + again)[-3:], [1, 1, 1])

    def test_refused_leaves_all_as_it_was(self):
        filled = [start(2), same(0, 1, 1), same(0, 1, 2), chain(1, 1, 2), store(1, 2), new(1), free(1)]
        for n in (0, 5, TOP):
            behind = [start(n), same(0, 2, 2), same(0, 3, 0), same(1, 0, 0), free(1), clear(0), clear(1)]
            self.assertEqual(firsts(filled + behind)[-7:], [-1, 3, -2, 2, 4, 3, 2], n)

    def test_refused_leaves_names_of_a_new_line(self):
        for n in (0, 5, TOP):
            self.assertEqual(firsts([start(n), same(0, 3, 3), same(0, 4, 4)]), [-1, 1, -2])

    def test_one_behind_another(self):
        calls = [start(4), same(0, 4, 4), start(1), same(0, 2, 2), start(0), same(0, 1, 1), start(3), same(0, 3, 3)]
        self.assertEqual(firsts(calls), [4, 1, 1, -2, -1, 1, 3, 1])


if __name__ == "__main__":
    unittest.main()
