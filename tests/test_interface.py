"""The interface: how calls are handed in and what is given back."""

import unittest

from pieceheaps.desk import answers
from tests.helper import TOP, cell, chain, clear, differ, firsts, free, joined, let, load, new, same, start, store

ONE_OF_EACH = [start(2), same(0, 1, 2), differ(0, 1, 2), cell(0, 1, 2), chain(1, 1, 2), clear(0),
               let(1, 2), load(1, 2), store(1, 2), new(1)]


class Watched(list):
    """A list that tells of every way to change it."""

    def refuse(self, *numbers, **named):
        raise AssertionError("what is handed in was changed")

    __setitem__ = __delitem__ = __iadd__ = __imul__ = refuse
    append = clear = extend = insert = pop = remove = reverse = sort = refuse


class GivenBack(unittest.TestCase):
    def test_number_by_number(self):
        self.assertEqual(answers([0, 2]), [1, 2])
        self.assertEqual(answers([0, 5]), [1, -1])
        self.assertEqual(answers([1, 0, 1, 2, 5, 0, 10, 3]), [1, 1, 1, 1, 1, 1])
        self.assertEqual(answers([4, 1, 3, 0, 4, 1, 3, 4, 6, 0, 1, 9, 1]), [1, 1, 1, -2, 1, -1, 1, 1])

    def test_each_call_by_itself(self):
        for call in ONE_OF_EACH[1:] + [free(1)]:
            self.assertEqual(answers(list(call)), [1, 0 if call == clear(0) else 1], call)

    def test_each_call_one_behind_another(self):
        given = answers(joined(ONE_OF_EACH + [free(1)]))
        self.assertEqual(given, [1, 2, 1, 1, 1, 2, 1, 3, 1, 1, 1, 3, 1, 1, 1, 2, 1, 3, 1, 4, 1, -5])

    def test_numbers_of_a_call_are_not_taken_for_calls(self):
        self.assertEqual(answers([0, 0, 0, 4, 0, 1]), [1, -1, 1, 4, 1, 1])
        self.assertEqual(answers([10, 10, 9, 9, 5, 5, 6, 3, 3]), [1, -2, 1, -2, 1, -1, 1, 1])

    def test_whole_numbers_in_a_list(self):
        calls = ONE_OF_EACH + [free(1), start(1), clear(0), start(0), clear(2), same(0, 4, TOP), let(0, 0)]
        given = answers(joined(calls))
        self.assertIs(type(given), list)
        for number in given:
            self.assertIs(type(number), int)

    def test_greatest_numbers(self):
        calls = [start(TOP), same(TOP, TOP, TOP), differ(0, TOP, TOP), cell(1, TOP, 0), chain(TOP, 0, 0), clear(TOP),
                 let(TOP, TOP), load(0, TOP), store(0, TOP), new(TOP), free(TOP)]
        self.assertEqual(firsts(calls), [-1, -1, -2, -2, -1, -1, -2, -2, -2, -2, -2])


class ALine(unittest.TestCase):
    def test_its_beginning(self):
        self.assertEqual(firsts([clear(0)]), [0])
        self.assertEqual(firsts([clear(1)]), [0])
        self.assertEqual(firsts([same(0, 3, 3), same(1, 3, 3), free(3)]), [1, 1, 1])
        self.assertEqual(firsts([same(0, 4, 0), same(1, 0, 4), free(4), let(4, 4)]), [-2, -2, -2, -2])

    def test_40_calls(self):
        self.assertEqual(firsts([start(4)] * 40), [4] * 40)
        calls = [differ(0, 1, 2)] * 9 + [chain(1, 1, 0)] * 4 + [cell(1, 2, 3)] * 6 + [load(1, 2)] * 5
        calls += [clear(0), clear(1), start(0), start(1)] + [same(1, 1, 1)] * 8 + [free(2), free(1), new(0), clear(1)]
        self.assertEqual(len(calls), 40)
        expected = [1, 2, 3, 4, 5, 6, 7, 8, -5, 1, 2, 3, -5, 4, 5, 6, 7, 8, -5, 1, 2, 3, 4, -5]
        expected += [8, 8, -1, 1, 1, 2, 3, 4, 5, 6, 7, 8, -2, 1, -1, 8]
        self.assertEqual(firsts(calls), expected)

    def test_what_is_handed_in_is_not_changed(self):
        handed = joined(ONE_OF_EACH + [free(1), start(5), clear(2)])
        was = list(handed)
        given = answers(handed)
        self.assertEqual(handed, was)
        self.assertIsNot(given, handed)

    def test_what_is_handed_in_is_not_changed_for_a_while(self):
        handed = joined(ONE_OF_EACH + [free(1), start(5), clear(2)])
        self.assertEqual(answers(Watched(handed)), answers(handed))

    def test_two_lines_do_not_touch_one_another(self):
        one = joined([start(1), same(0, 1, 1), chain(1, 1, 0), chain(1, 1, 0), new(1), new(1), new(1)])
        other = joined([same(0, 3, 3), chain(1, 3, 0), new(3), clear(0), clear(1)])
        of_one = answers(one)
        of_other = answers(other)
        self.assertEqual(of_one, [1, 1, 1, 1, 1, 1, 1, 2, 1, 1, 1, 2, 1, 3])
        self.assertEqual(of_other, [1, 1, 1, 1, 1, 1, 1, 1, 1, 1])
        for again in range(3):
            self.assertEqual(answers(one), of_one)
            self.assertEqual(answers(other), of_other)

    def test_what_is_given_back_is_not_kept(self):
        given = answers([5, 0])
        given.append(7)
        self.assertEqual(answers([5, 0]), [1, 0])


if __name__ == "__main__":
    unittest.main()
