"""run: the last plain run from a world that is handed in."""

import unittest

from pieceheaps.desk import answers
from tests.helper import TOP, asked, firsts, free, handed, let, load, new, run, start, store, undo, world


def ends(steps, names, heap):
    return asked([start(len(names))] + steps + [run(handed(names, heap))])


class Run(unittest.TestCase):
    def ends_in(self, steps, names, heap, names_then, heap_then):
        self.assertEqual(ends(steps, names, heap), [1] + world(names_then, heap_then))

    def faults(self, steps, names, heap, at):
        self.assertEqual(ends(steps, names, heap), [0, at])

    def test_no_step(self):
        self.assertEqual(answers([20, 3, 5, 0, 7]), [5, 1, 5, 0, 7, 0])
        self.ends_in([], [3, TOP], {2: 9, TOP: TOP}, [3, TOP], {2: 9, TOP: TOP})
        self.ends_in([], [0, 0, 0, 0], {}, [0, 0, 0, 0], {})

    def test_let(self):
        self.ends_in([let(1, 2)], [3, 4], {3: 0}, [4, 4], {3: 0})
        self.ends_in([let(2, 0)], [3, 4], {3: 0}, [3, 0], {3: 0})
        self.ends_in([let(1, 1)], [3, 4], {}, [3, 4], {})
        self.ends_in([let(3, 1), let(1, 2), let(2, 3)], [3, 4, 5], {}, [4, 3, 3], {})

    def test_load(self):
        self.ends_in([load(1, 2)], [3, 4], {4: 9}, [9, 4], {4: 9})
        self.ends_in([load(2, 2)], [3, 4], {4: 9}, [3, 9], {4: 9})
        self.ends_in([load(1, 1)] * 4, [1, 0], {1: 2, 2: 3, 3: 4, 4: 5}, [5, 0], {1: 2, 2: 3, 3: 4, 4: 5})

    def test_store(self):
        self.ends_in([store(1, 2)], [3, 4], {3: 9}, [3, 4], {3: 4})
        self.ends_in([store(1, 0)], [3, 4], {3: 9}, [3, 4], {3: 0})
        self.ends_in([store(1, 1)], [3, 4], {3: 9}, [3, 4], {3: 3})
        self.ends_in([store(1, 2), load(2, 1), store(1, 0)], [3, 4], {3: 9}, [3, 4], {3: 0})

    def test_free(self):
        self.ends_in([free(1)], [3, 4], {3: 9}, [3, 4], {})
        self.ends_in([free(2)], [3, 4], {3: 9, 4: 0, 5: 0}, [3, 4], {3: 9, 5: 0})
        self.ends_in([load(2, 1), free(1), free(2)], [3, 9], {3: 4, 4: 0, 5: 4}, [3, 4], {5: 4})

    def test_faults(self):
        for step in (load(1, 2), load(2, 2), store(2, 1), store(2, 0), free(2)):
            self.faults([step], [3, 4], {3: 4, 5: 0}, 0)
            self.faults([step], [3, 0], {3: 4, 5: 0}, 0)
            for behind in range(4):
                steps = [let(1, 1)] * behind + [step] + [let(1, 1)] * (3 - behind)
                self.faults(steps, [3, 4], {3: 4}, behind)
        for step in (load(1, 0), store(0, 1), store(0, 0), free(0)):
            self.faults([step], [3, 4], {3: 4}, 0)
            self.faults([new(1), step], [3, 4], {3: 4}, 1)

    def test_the_first_fault_alone(self):
        self.faults([let(1, 2), free(0), load(1, 0), store(0, 0)], [3, 4], {3: 4}, 1)
        self.faults([free(1), free(1), free(1)], [3, 4], {3: 4}, 1)
        self.faults([free(1), load(2, 1)], [3, 4], {3: 4}, 1)
        self.faults([free(1), store(1, 2)], [3, 4], {3: 4}, 1)
        self.faults([load(1, 1), load(1, 1), load(1, 1)], [1, 0], {1: 2, 2: 0}, 2)

    def test_a_new_cell_is_next_above_all(self):
        self.ends_in([new(1)], [0, 0], {}, [1, 0], {1: 0})
        self.ends_in([new(1)], [7, 0], {}, [8, 0], {8: 0})
        self.ends_in([new(1)], [0, 7], {}, [8, 7], {8: 0})
        self.ends_in([new(2)], [0, 1], {7: 0}, [0, 8], {7: 0, 8: 0})
        self.ends_in([new(2)], [0, 1], {3: 7}, [0, 8], {3: 7, 8: 0})
        self.ends_in([new(2)], [5, 1], {3: 4, 2: 6}, [5, 7], {2: 6, 3: 4, 7: 0})
        self.ends_in([let(2, 0), new(1)], [1, 7], {}, [2, 0], {2: 0})

    def test_several_new_cells(self):
        self.ends_in([new(1), new(1), new(1), new(1)], [0, 0], {}, [4, 0], {1: 0, 2: 0, 3: 0, 4: 0})
        self.ends_in([new(1), new(2), new(3), new(4)], [9, 0, 0, 0], {}, [10, 11, 12, 13],
                     {10: 0, 11: 0, 12: 0, 13: 0})
        self.ends_in([new(1), store(1, 2), new(2), store(2, 1)], [5, 6], {6: 8}, [9, 10], {6: 8, 9: 6, 10: 9})
        # What a new cell was and is forgotten can be got again.
        self.ends_in([new(1), free(1), let(1, 0), new(2)], [0, 0], {}, [0, 1], {1: 0})
        self.ends_in([new(1), free(1), new(2)], [0, 0], {}, [1, 2], {2: 0})

    def test_above_the_greatest_number_that_is_handed_in(self):
        self.ends_in([new(1)], [0, TOP], {}, [TOP + 1, TOP], {TOP + 1: 0})
        self.ends_in([new(1)], [0, 0], {TOP: 0}, [TOP + 1, 0], {TOP: 0, TOP + 1: 0})
        self.ends_in([new(1)], [0, 0], {1: TOP}, [TOP + 1, 0], {1: TOP, TOP + 1: 0})
        self.ends_in([new(1), new(2), store(1, 2), new(1)], [0, 0], {1: TOP}, [TOP + 3, TOP + 2],
                     {1: TOP, TOP + 1: TOP + 2, TOP + 2: 0, TOP + 3: 0})

    def test_each_n(self):
        for n in (1, 2, 3, 4):
            names = list(range(5, 5 + n))
            self.ends_in([new(n)], names, {}, names[:-1] + [5 + n], {5 + n: 0})

    def test_a_world_of_700_numbers(self):
        heap = {3 * k: 3 * k + 3 for k in range(1, 350)}
        numbers = handed([3, 0], heap)
        self.assertEqual(len(numbers), 700)
        then = dict(heap)
        then.pop(6)
        then[1051] = 0
        then[3] = 1051
        self.assertEqual(asked([start(2), load(2, 1), free(2), new(2), store(1, 2), run(numbers)]),
                         [1] + world([3, 1051], then))

    def test_by_place(self):
        given = ends([new(1), new(2)], [0, 0], {5: 1, 7: 0})
        self.assertEqual(given, [1, 8, 9, 4, 5, 1, 7, 0, 8, 0, 9, 0])

    def test_again_and_again(self):
        calls = [start(1), new(1), run([4]), run([4]), undo(), run([4])]
        self.assertEqual(asked(calls), [1, 4, 0])
        self.assertEqual(asked(calls[:4]), [1, 5, 1, 5, 0])

    def test_not_a_world(self):
        self.assertEqual(firsts([new(1), run([1, 2]), run([]), run([1, 2, 3, 0, 5]), run([1, 2, 3, 4])])[1:], [-3] * 4)


if __name__ == "__main__":
    unittest.main()
