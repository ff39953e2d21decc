"""The whole program: lines of calls of all kinds, and what the asking calls leave as it was."""

import copy
import unittest

from pieceheaps.desk import answer, answers
from pieceheaps.line import Line
from tests.helper import TOP, can, cell, chain, clear, differ, fits, frame, free, joined, let, load, new, run, safe
from tests.helper import same, says, start, store, surely, swap, taken_apart, triple, undo, world

ASKING = [triple(), safe(), says(), frame(), can(0), can(1), surely(0, 1, 2), surely(1, 2, 1),
          fits(0, [1, 2, 0, 1, 0]), fits(1, [1, 2, 0]), run([1, 2, 0, 1, 0]), run([0, 0, 0])]
REFUSED = [can(2), surely(2, 1, 1), surely(0, 5, 1), fits(2, []), fits(0, []), fits(1, [1, 2, 3, 4, 0, 0]), run([]),
           run([1, 2, 3, 4, 2, 0, 1, 0, 5]), start(5), clear(2), same(0, 5, 4), let(0, 1), new(TOP)]
FILLINGS = (
    [],
    [differ(0, 1, 1), cell(1, 1, 1)],
    [cell(0, 1, 2), chain(0, 2, 3), differ(0, 2, 3), chain(1, 1, 3), load(2, 1), free(2), new(3), store(1, 3)],
    [start(4), chain(0, 1, 0), cell(0, 2, 3), cell(0, 4, 4), chain(1, 1, 4), cell(1, 2, 2), new(4), load(1, 2)],
    [start(1), chain(0, 1, 0), differ(0, 1, 0), chain(1, 1, 0), load(1, 1)],
)

# Every call with what it answers.
FORTY = (
    (start(2), [2]),
    (chain(0, 1, 0), [1]),
    (says(), [0] + world([1, 0], {1: 0})),
    (differ(0, 1, 0), [2]),
    (chain(1, 1, 2), [1]),
    (chain(1, 2, 0), [2]),
    (says(), [0] + world([1, 2], {1: 0})),
    (frame(), [0]),
    (swap(), [2, 2]),
    (says(), [0] + world([0, 0], {})),
    (frame(), [0]),
    (swap(), [2, 2]),
    (load(2, 1), [1]),
    (triple(), [1]),
    (free(1), [2]),
    (safe(), [1]),
    (let(1, 2), [3]),
    (new(1), [4]),
    (store(1, 1), [-5]),
    (undo(), [3]),
    (triple(), [1]),
    (clear(1), [2]),
    (chain(1, 1, 0), [1]),
    (undo(), [2]),
    (triple(), [0] + world([1, 0], {1: 0}) + [0, 2]),
    (safe(), [1]),
    (can(0), [1] + world([1, 0], {1: 0})),
    (can(1), [1] + world([0, 0], {})),
    (surely(0, 0, 1), [0]),
    (surely(1, 0, 1), [2]),
    (surely(0, 0, 3), [-2]),
    (fits(0, [1, 5, 1, 2, 2, 0]), [1]),
    (fits(1, [2, 5, 1, 2]), [0]),
    (fits(0, [5]), [-3]),
    (run([3, 0, 3, 8]), [1] + world([3, 8], {})),
    (run([0, 0]), [0, 0]),
    (undo(), [1]),
    (run([3, 0, 3, 8]), [1] + world([3, 8], {3: 8})),
    (cell(0, 2, 2), [3]),
    (same(1, 1, 1), [2]),
)

LISTS = [chain(0, 1, 0), chain(0, 2, 0), chain(0, 3, 0), chain(1, 1, 0), chain(1, 2, 0), chain(1, 3, 0)]
FULL_LISTS = LISTS + [differ(0, 1, 0), differ(0, 2, 0), differ(0, 3, 0), same(0, 4, 4), same(0, 1, 1)]
LARGEST = [start(4)] + FULL_LISTS + [differ(1, 1, 0), differ(1, 2, 0), differ(1, 3, 0), same(1, 1, 1), same(1, 2, 2)]


def kept(line):
    return copy.deepcopy((line.greatest, line.tellings, line.steps))


class Watched(list):
    """A list that tells of every way to change it."""

    def refuse(self, *numbers, **named):
        raise AssertionError("what is handed in was changed")

    __setitem__ = __delitem__ = __iadd__ = __imul__ = refuse
    append = clear = extend = insert = pop = remove = reverse = sort = refuse


class ALine(unittest.TestCase):
    def test_40_calls_of_all_kinds(self):
        calls = [call for call, answered in FORTY]
        self.assertEqual(len(calls), 40)
        self.assertEqual(set(call[0] for call in calls), set(range(21)))
        self.assertEqual(taken_apart(answers(joined(calls))), [answered for call, answered in FORTY])

    def test_the_count_ahead_of_each_answer(self):
        expected = []
        for call, answered in FORTY:
            expected += [len(answered)] + answered
        self.assertEqual(answers(joined([call for call, answered in FORTY])), expected)

    def test_whole_numbers_in_a_list(self):
        for filling in FILLINGS:
            given = answers(joined(filling + ASKING + REFUSED))
            self.assertIs(type(given), list)
            for number in given:
                self.assertIs(type(number), int)

    def test_what_is_handed_in_is_not_changed(self):
        for calls in [[call for call, answered in FORTY]] + [filling + ASKING + REFUSED for filling in FILLINGS]:
            handed = joined(calls)
            was = list(handed)
            given = answers(handed)
            self.assertEqual(handed, was)
            self.assertEqual(answers(Watched(handed)), given)

    def test_two_lines_one_behind_the_other(self):
        one = joined([call for call, answered in FORTY])
        of_one = answers(one)
        for filling in FILLINGS:
            other = joined(filling + ASKING)
            of_other = answers(other)
            self.assertEqual(answers(one), of_one)
            self.assertEqual(answers(other), of_other)
        self.assertEqual(answers([13, 14, 15, 16, 17, 0, 11]), [1, 1, 1, 1, 1, 1, 2, 1, 0, 5, 1, 0, 0, 0, 0, 1, -7])


class LeftAsItWas(unittest.TestCase):
    def test_by_the_calls_of_asking(self):
        for filling in FILLINGS:
            line = Line()
            for call in filling:
                self.assertGreater(answer(line, call[0], call[1:])[0], 0)
            was = kept(line)
            for call in ASKING + REFUSED:
                given = answer(line, call[0], call[1:])
                self.assertEqual(kept(line), was, call)
                self.assertEqual(answer(line, call[0], call[1:]), given)

    def test_after_a_refusal(self):
        for filling in FILLINGS:
            for call in REFUSED:
                line = Line()
                for written in filling:
                    answer(line, written[0], written[1:])
                was = kept(line)
                given = answer(line, call[0], call[1:])
                self.assertEqual(len(given), 1)
                self.assertLess(given[0], 0, call)
                self.assertEqual(kept(line), was, call)

    def test_seen_from_outside(self):
        for filling in FILLINGS:
            ahead = taken_apart(answers(joined(filling + ASKING)))[len(filling):]
            behind = taken_apart(answers(joined(filling + ASKING + ASKING)))[len(filling):]
            self.assertEqual(behind, ahead + ahead)


class TheLargestLines(unittest.TestCase):
    def asked_of(self, steps, calls):
        given = taken_apart(answers(joined(LARGEST + steps + calls)))
        self.assertEqual(given[11], [8])
        self.assertEqual(given[16], [8])
        self.assertEqual(len(given), 17 + len(steps) + len(calls))
        return given[-len(calls):]

    def test_that_hold(self):
        steps = [load(4, 1), store(1, 4), load(4, 2), let(4, 3)]
        self.assertEqual(self.asked_of(steps, [triple(), safe(), says(), frame()] * 4), [[1], [1], [1], [1, 0]] * 4)

    def test_with_new_cells(self):
        steps = [new(4), store(4, 3), let(3, 4), let(4, 0)]
        self.assertEqual(self.asked_of(steps, [triple(), safe()]), [[1], [1]])

    def test_that_do_not_hold(self):
        steps = [load(4, 1), load(4, 2), load(4, 3), free(3)]
        first = world([1, 2, 3, 0], {1: 0, 2: 0, 3: 0})
        self.assertEqual(self.asked_of(steps, [triple(), safe()]), [[0] + first + [0, 2], [1]])
        steps = [load(4, 1), load(4, 2), load(4, 3), store(4, 4)]
        self.assertEqual(self.asked_of(steps, [triple(), safe()]), [[0] + first + [0, 1, 3], [0] + first + [0, 3]])

    def test_four_new_cells(self):
        # Both tellings have 8 facts, and each of the three names that no fact ties down may be any place.
        facts = [chain(0, 1, 0)] + [chain(0, 0, 0)] * 2 + [same(0, 1, 1)] * 5
        facts += [chain(1, 1, 0)] + [chain(1, 0, 0)] * 2 + [same(1, 1, 1)] * 5
        calls = [start(4)] + facts + [new(4)] * 4
        given = taken_apart(answers(joined(calls + [safe(), triple()])))
        self.assertEqual(given[-2:], [[1], [0] + world([0, 0, 0, 0], {}) + [4, 1, 2, 3, 4, 2]])

    def test_one_chain_and_three_names_anywhere(self):
        facts = [chain(0, 1, 0)] + [chain(0, 0, 0)] * 2 + [differ(0, 1, 0)] * 5
        facts += [chain(1, 1, 0)] + [chain(1, 2, 2)] * 2 + [differ(1, 1, 0)] * 5
        steps = [load(2, 1), load(3, 1), load(4, 1), store(1, 2)]
        calls = [start(4)] + facts + steps + [triple(), safe(), says(), frame()] * 4
        given = taken_apart(answers(joined(calls)))
        self.assertEqual(given[-16:], [[1], [1], [1], [1, 0]] * 4)


if __name__ == "__main__":
    unittest.main()
