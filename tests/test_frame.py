"""frame: the fewest pieces of the telling before that are left over by the one behind."""

import unittest

from pieceheaps.desk import answers
from tests.helper import asked, cell, chain, differ, frame, new, same, start, swap


def left_over(n, before, behind):
    calls = [start(n)] + [fact(0, x, y) for fact, x, y in before] + [fact(1, x, y) for fact, x, y in behind]
    return asked(calls + [frame()])


class Frame(unittest.TestCase):
    def test_none_needed(self):
        self.assertEqual(answers([16]), [2, 1, 0])
        self.assertEqual(left_over(2, [], []), [1, 0])
        self.assertEqual(left_over(2, [(cell, 1, 2)], [(cell, 1, 2)]), [1, 0])
        self.assertEqual(left_over(2, [(chain, 1, 2), (chain, 2, 0)], [(chain, 1, 0)]), [1, 0])
        self.assertEqual(left_over(2, [(same, 1, 2), (chain, 1, 2)], [(same, 2, 1)]), [1, 0])

    def test_one(self):
        self.assertEqual(left_over(2, [(cell, 1, 2)], []), [1, 1, 0])
        self.assertEqual(left_over(2, [(chain, 1, 2)], []), [1, 1, 0])
        self.assertEqual(left_over(2, [(cell, 1, 2), (cell, 2, 0)], [(cell, 1, 2)]), [1, 1, 1])
        self.assertEqual(left_over(2, [(cell, 1, 2), (cell, 2, 0)], [(cell, 2, 0)]), [1, 1, 0])
        self.assertEqual(left_over(2, [(chain, 2, 0), (cell, 1, 2)], [(chain, 2, 0)]), [1, 1, 1])

    def test_several(self):
        before = [(cell, 1, 2), (cell, 2, 3), (cell, 3, 0)]
        self.assertEqual(left_over(3, before, []), [1, 3, 0, 1, 2])
        self.assertEqual(left_over(3, before, [(cell, 2, 3)]), [1, 2, 0, 2])
        self.assertEqual(left_over(3, before, [(chain, 2, 0)]), [1, 1, 0])
        self.assertEqual(left_over(3, before, [(chain, 1, 2)]), [1, 2, 1, 2])

    def test_places_are_counted_among_all_facts(self):
        before = [(same, 1, 1), (cell, 1, 2), (differ, 2, 3), (chain, 2, 0), (same, 3, 3), (cell, 3, 0)]
        self.assertEqual(left_over(3, before, [(chain, 2, 0)]), [1, 2, 1, 5])
        self.assertEqual(left_over(3, before, [(cell, 3, 0), (differ, 1, 0)]), [1, 2, 1, 3])
        self.assertEqual(left_over(3, before, [(chain, 1, 0)]), [1, 1, 5])
        self.assertEqual(left_over(3, before, []), [1, 3, 1, 3, 5])

    def test_eight_facts(self):
        before = [(cell, 1, 0), (cell, 2, 0), (cell, 3, 0), (cell, 4, 0)]
        self.assertEqual(left_over(4, before, []), [1, 4, 0, 1, 2, 3])
        before = [(chain, 1, 1)] * 3 + [(same, 1, 1)] + before
        self.assertEqual(left_over(4, before, []), [1, 4, 4, 5, 6, 7])
        self.assertEqual(left_over(4, before, [(cell, 4, 0), (cell, 1, 0)]), [1, 2, 5, 6])

    def test_as_few_as_can_be(self):
        # A chain that never has a cell could be put behind, too, but needn't be.
        self.assertEqual(left_over(3, [(chain, 1, 1), (cell, 2, 0)], []), [1, 1, 1])
        self.assertEqual(left_over(3, [(cell, 1, 0), (chain, 1, 2)], []), [1, 1, 0])
        self.assertEqual(left_over(3, [(chain, 1, 2), (chain, 1, 2)], []), [1, 0])
        self.assertEqual(left_over(3, [(chain, 0, 3), (chain, 1, 2), (same, 1, 2)], [(chain, 2, 1)]), [1, 0])

    def test_one_in_some_worlds_and_another_in_others(self):
        # Of the two chains at name 1 one has no cell, and in each world another one may be that.
        self.assertEqual(left_over(3, [(chain, 1, 2), (chain, 1, 3)], []), [1, 2, 0, 1])
        before = [(chain, 3, 1), (chain, 3, 2), (differ, 1, 2)]
        self.assertEqual(left_over(3, before, [(chain, 3, 1)]), [1, 1, 1])
        self.assertEqual(left_over(3, before, [(chain, 3, 2)]), [1, 1, 0])
        self.assertEqual(left_over(3, before, [(chain, 3, 2), (chain, 3, 1)]), [1, 0])

    def test_none_such(self):
        # A fact behind that isn't so.
        self.assertEqual(left_over(2, [], [(cell, 1, 0)]), [0])
        self.assertEqual(left_over(2, [], [(same, 1, 2)]), [0])
        self.assertEqual(left_over(2, [(cell, 1, 2)], [(cell, 2, 1)]), [0])
        self.assertEqual(left_over(2, [], [(differ, 1, 1)]), [0])
        # A place that's taken twice by the telling behind itself.
        self.assertEqual(left_over(2, [(cell, 1, 0)], [(cell, 1, 0), (cell, 1, 0)]), [0])

    def test_none_such_for_a_piece_that_is_taken_in_part(self):
        self.assertEqual(left_over(1, [(chain, 1, 0), (differ, 1, 0)], [(cell, 1, 0)]), [0])
        before = [(differ, 1, 2), (differ, 1, 3), (differ, 2, 3), (chain, 1, 2), (chain, 2, 3)]
        self.assertEqual(left_over(3, before, [(chain, 1, 3)]), [0])
        self.assertEqual(left_over(3, before, [(chain, 1, 2)]), [1, 1, 4])

    def test_none_such_for_a_piece_that_is_taken_in_some_worlds_alone(self):
        self.assertEqual(left_over(2, [(cell, 1, 2)], [(chain, 1, 2)]), [0])
        self.assertEqual(left_over(2, [(cell, 1, 2), (differ, 1, 2)], [(chain, 1, 2)]), [1, 0])

    def test_a_telling_before_that_is_so_in_no_world(self):
        never = ([(differ, 1, 1)], [(cell, 1, 0), (cell, 1, 0)], [(cell, 0, 1), (chain, 1, 2)])
        for before in never:
            for behind in ([], [(cell, 1, 0)], [(differ, 2, 2)], before):
                self.assertEqual(left_over(2, before, behind), [1, 0])

    def test_more_facts_together_than_a_telling_has_room_for(self):
        # Behind the three chains of the telling behind come three more.
        before = [(chain, 1, 0), (chain, 2, 0), (chain, 3, 0), (differ, 1, 0), (differ, 2, 0), (differ, 3, 0)]
        behind = [(chain, 1, 1), (chain, 2, 2), (chain, 0, 0)]
        self.assertEqual(left_over(4, before, behind), [1, 3, 0, 1, 2])
        facts = [(same, 1, 1)] * 5
        self.assertEqual(left_over(4, before[:3] + [(cell, 4, 4)] + before[3:], behind + facts), [1, 4, 0, 1, 2, 3])

    def test_the_program_does_not_matter_and_tellings_change_places(self):
        calls = [start(2), cell(0, 1, 2), cell(0, 2, 0), chain(1, 2, 0), new(1)]
        self.assertEqual(asked(calls + [frame()]), [1, 1, 0])
        self.assertEqual(asked(calls + [swap(), frame()]), [0])


if __name__ == "__main__":
    unittest.main()
