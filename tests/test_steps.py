"""Point 2: let, load, store, new and free."""

import unittest

from tests.helper import ONE_NAME_STEPS, TOP, TWO_NAME_STEPS
from tests.helper import clear, firsts, free, last, let, load, new, same, start, store

ONE_OF_EACH = [let(1, 2), load(1, 2), store(1, 2), new(1), free(1)]
FULL_PROGRAM = [store(1, 2)] * 4


class OrdinarySteps(unittest.TestCase):
    def test_each_kind_answers_how_many(self):
        for step in ONE_OF_EACH:
            self.assertEqual(firsts([step] * 4), [1, 2, 3, 4], step)

    def test_kinds_are_counted_together(self):
        for left_out in range(5):
            steps = ONE_OF_EACH[:left_out] + ONE_OF_EACH[left_out + 1:]
            self.assertEqual(firsts(steps), [1, 2, 3, 4])

    def test_every_name(self):
        for x in range(1, 4):
            for y in range(4):
                for step in TWO_NAME_STEPS:
                    self.assertEqual(firsts([step(x, y)]), [1])
            for step in ONE_NAME_STEPS:
                self.assertEqual(firsts([step(x)]), [1])

    def test_store_and_free_may_name_0(self):
        self.assertEqual(firsts([store(0, 1), store(0, 0), free(0)]), [1, 2, 3])

    def test_what_is_read_may_be_name_0(self):
        self.assertEqual(firsts([let(1, 0), load(1, 0), store(1, 0)]), [1, 2, 3])

    def test_facts_are_not_counted(self):
        self.assertEqual(firsts([same(0, 1, 2)] * 8 + [same(1, 1, 2)] * 8 + FULL_PROGRAM)[-4:], [1, 2, 3, 4])

    def test_clear_leaves_the_program(self):
        self.assertEqual(last([new(1), new(2), clear(0), clear(1), new(3)]), 3)


class RefusedSteps(unittest.TestCase):
    def test_no_such_name(self):
        for n in (1, 2, 3, 4):
            for step in TWO_NAME_STEPS:
                self.assertEqual(firsts([start(n), step(n, n), step(n, 0)])[1:], [1, 2])
                for name in (n + 1, n + 2, n + 256, TOP):
                    calls = [start(n), step(name, 1), step(1, name), step(name, name)]
                    self.assertEqual(firsts(calls)[1:], [-2, -2, -2])
            for step in ONE_NAME_STEPS:
                calls = [start(n), step(n), step(n + 1), step(n + 2), step(TOP), step(n)]
                self.assertEqual(firsts(calls)[1:], [1, -2, -2, -2, 2])

    def test_names_after_a_start_with_another_n(self):
        calls = [start(4), let(4, 4), start(1), let(2, 1), load(1, 2), store(2, 2), new(2), free(2), free(1)]
        self.assertEqual(firsts(calls), [4, 1, 1, -2, -2, -2, -2, -2, 1])
        self.assertEqual(firsts([start(1), new(4), start(4), new(4), free(5)]), [1, -2, 4, 1, -2])

    def test_name_0_set(self):
        for y in range(4):
            self.assertEqual(firsts([let(0, y), load(0, y)]), [-1, -1])
        self.assertEqual(firsts([new(0)]), [-1])

    def test_the_fourth_and_the_fifth_step(self):
        for step in ONE_OF_EACH:
            self.assertEqual(firsts(FULL_PROGRAM + [step, step])[3:], [4, -5, -5], step)
            self.assertEqual(firsts(FULL_PROGRAM[:3] + [step, step])[3:], [4, -5], step)

    def test_refused_steps_are_not_there(self):
        refused = [let(0, 1), load(0, 1), new(0), let(4, 1), load(1, 4), store(4, 4), new(TOP), free(4)]
        self.assertEqual(firsts(refused + FULL_PROGRAM)[-5:], [-2, 1, 2, 3, 4])


class SeveralRefusals(unittest.TestCase):
    """The order: no such name, name 0 set, no room."""

    def test_name_ahead_of_name_0_set(self):
        for name in (4, 5, TOP):
            self.assertEqual(firsts([let(0, name), load(0, name)]), [-2, -2])

    def test_name_ahead_of_room(self):
        for step in TWO_NAME_STEPS:
            self.assertEqual(firsts(FULL_PROGRAM + [step(4, 1), step(1, 4)])[4:], [-2, -2])
        for step in ONE_NAME_STEPS:
            self.assertEqual(last(FULL_PROGRAM + [step(4)]), -2)

    def test_name_0_set_ahead_of_room(self):
        self.assertEqual(firsts(FULL_PROGRAM + [let(0, 1), load(0, 1), new(0)])[4:], [-1, -1, -1])

    def test_all_three(self):
        self.assertEqual(firsts(FULL_PROGRAM + [let(0, 4), load(0, 4)])[4:], [-2, -2])

    def test_name_0_in_store_and_free_is_refused_for_room_alone(self):
        self.assertEqual(firsts(FULL_PROGRAM + [store(0, 1), free(0)])[4:], [-5, -5])


if __name__ == "__main__":
    unittest.main()
