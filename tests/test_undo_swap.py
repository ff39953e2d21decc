"""Point 2: undo and swap."""

import unittest

from pieceheaps.desk import answers
from tests.helper import asked, cell, chain, clear, differ, firsts, free, joined, let, load, new, run, same, start
from tests.helper import store, swap, taken_apart, undo


class Undo(unittest.TestCase):
    def test_no_step(self):
        self.assertEqual(answers([11]), [1, -7])
        self.assertEqual(firsts([undo(), undo(), new(1), undo(), undo()]), [-7, -7, 1, 0, -7])

    def test_behind_four_steps_down_to_none(self):
        steps = [let(1, 2), load(2, 1), store(1, 1), free(3)]
        self.assertEqual(firsts(steps + [undo()] * 6)[4:], [3, 2, 1, 0, -7, -7])

    def test_makes_room_again(self):
        calls = [new(1)] * 5 + [undo(), free(1), free(1), undo(), undo(), let(1, 2)]
        self.assertEqual(firsts(calls), [1, 2, 3, 4, -5, 3, 4, -5, 3, 2, 3])

    def test_the_last_one_is_gone(self):
        calls = [start(1), free(1), new(1), undo(), run([5, 5, 0])]
        self.assertEqual(asked(calls), [1, 5, 0])
        calls = [start(1), new(1), free(1), undo(), run([5, 5, 0])]
        self.assertEqual(asked(calls), [1, 6, 2, 5, 0, 6, 0])

    def test_a_step_written_again_behind_it(self):
        calls = [start(2), let(1, 2), load(1, 2), undo(), store(1, 2), run([1, 2, 1, 0, 2, 7])]
        self.assertEqual(asked(calls), [1, 2, 2, 2, 1, 0, 2, 2])

    def test_start_leaves_none(self):
        self.assertEqual(firsts([new(1), start(3), undo()]), [1, 3, -7])
        self.assertEqual(firsts([new(1), start(0), undo(), undo()]), [1, -1, 0, -7])

    def test_leaves_the_tellings(self):
        calls = [same(0, 1, 1), same(1, 1, 1), same(1, 1, 1), new(1), undo(), undo(), clear(0), clear(1)]
        self.assertEqual(firsts(calls)[4:], [0, -7, 1, 2])


class Swap(unittest.TestCase):
    def test_both_counts_in_their_order(self):
        self.assertEqual(answers([12]), [2, 0, 0])
        calls = [same(0, 1, 1)] + [same(1, 1, 1)] * 3 + [swap(), swap()]
        self.assertEqual(taken_apart(answers(joined(calls)))[-2:], [[3, 1], [1, 3]])
        self.assertEqual(asked([chain(0, 1, 2)] * 2 + [swap()]), [0, 2])
        self.assertEqual(asked([cell(1, 1, 2)] * 8 + [swap()]), [8, 0])
        self.assertEqual(asked([cell(1, 1, 2)] * 8 + [differ(0, 1, 2)] * 8 + [swap()]), [8, 8])

    def test_what_was_before_is_behind_then(self):
        told = [start(1), cell(0, 1, 0), same(1, 1, 0)]
        both = [[19, 0, 3, 1, 1, 0], [19, 1, 3, 1, 1, 0], [19, 0, 1, 0], [19, 1, 1, 0]]
        self.assertEqual(firsts(told + both)[3:], [1, 0, 0, 1])
        apart = taken_apart(answers(joined(told + [swap()] + both)))
        self.assertEqual(apart[3:], [[1, 1], [0], [1], [1], [0]])
        apart = taken_apart(answers(joined(told + [swap(), swap()] + both)))
        self.assertEqual(apart[5:], [[1], [0], [0], [1]])

    def test_written_to_after_it(self):
        calls = [same(0, 1, 1), same(0, 2, 2), swap(), same(0, 1, 1), same(1, 1, 1), clear(0), clear(1), swap()]
        self.assertEqual(taken_apart(answers(joined(calls)))[2:], [[0, 2], [1], [3], [1], [3], [0, 0]])

    def test_leaves_the_program_and_the_names(self):
        calls = [start(2), new(1), swap(), new(2), same(0, 3, 0), same(0, 2, 0)]
        self.assertEqual(taken_apart(answers(joined(calls)))[1:], [[1], [0, 0], [2], [-2], [1]])


if __name__ == "__main__":
    unittest.main()
