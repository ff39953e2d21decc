"""What is asked, against every world of small numbers and every run from it, by the document's words."""

import itertools
import random
import unittest

from pieceheaps.desk import answers
from tests.helper import can, every_place, every_world, firsts, frame, fits, handed, joined, plain_places, plain_rank
from tests.helper import run, runs, safe, says, so_in, start, surely, taken_apart, triple, world

# The greatest number that the worlds of n names have here.
GREATEST = {1: 4, 2: 4, 3: 3, 4: 2}
WORLDS = {}


def worlds_of(n):
    if n not in WORLDS:
        WORLDS[n] = every_world(n, GREATEST[n])
    return WORLDS[n]


def some_facts(chance, n, most):
    facts = []
    for fact in range(chance.randint(0, most)):
        kind = chance.choice((1, 2, 2, 3, 3, 4, 4, 4))
        if kind == 4 and [other[0] for other in facts].count(4) == 3:
            kind = 3
        facts.append((kind, chance.choice([0] + list(range(1, n + 1)) * 4), chance.randint(0, n)))
    return facts


def some_steps(chance, n, most):
    steps = []
    for step in range(chance.randint(0, most)):
        kind = chance.choice((6, 7, 7, 8, 8, 9, 9, 10))
        steps.append((kind, chance.randint(1, n), chance.randint(0, n) if kind < 9 else 0))
    return steps


def told_world(numbers, n):
    """The world at the beginning of an answer, as (names, heap), and what comes behind it."""
    behind = n + 1 + 2 * numbers[n]
    cells = numbers[n + 1:behind]
    return [0] + numbers[:n], dict(zip(cells[::2], cells[1::2])), numbers[behind:]


def calls_for(n, before, steps, behind):
    calls = [start(n)]
    calls += [[kind, 0, x, y] for kind, x, y in before]
    calls += [[kind, 1, x, y] for kind, x, y in behind]
    calls += [[kind, x, y][:3 if kind < 9 else 2] for kind, x, y in steps]
    return calls


class AllWorlds(unittest.TestCase):
    def first_of(self, facts, most, n, worlds, told, is_bad):
        """The world that is told is a plain one and bad, and none of these that's plain and bad comes ahead of it."""
        names, heap, rest = told_world(told, n)
        rank = plain_rank(facts, names, heap, most)
        self.assertIsNotNone(rank)
        self.assertTrue(is_bad(names, heap))
        self.assertEqual(told[:len(told) - len(rest)], world(names[1:], heap))
        ranks = [(plain_rank(facts, other, cells, most), other, cells) for other, cells in worlds]
        ahead = [row for row in ranks if row[0] is not None and row[0] < rank and is_bad(row[1], row[2])]
        self.assertEqual(ahead, [])
        return names, heap, rest

    def check_can(self, n, facts, worlds, answered):
        if not worlds:
            self.assertEqual(answered, [0])
        else:
            self.assertEqual(answered[0], 1)
            rest = self.first_of(facts, 1, n, worlds, answered[1:], lambda names, heap: True)[2]
            self.assertEqual(rest, [])

    def check_surely(self, x, y, worlds, answered):
        found = sorted(set(names[x] == names[y] for names, heap in worlds))
        self.assertEqual(answered, {(): [-6], (True,): [1], (False,): [0], (False, True): [2]}[tuple(found)])

    def check_says(self, n, before, behind, worlds, answered):
        if answered == [1]:
            for names, heap in worlds:
                self.assertTrue(so_in(behind, names, heap), (names, heap))
        else:
            self.assertEqual(answered[0], 0)
            rest = self.first_of(before, 2, n, worlds, answered[1:], lambda *both: not so_in(behind, *both))[2]
            self.assertEqual(rest, [])

    def check_frame(self, n, before, behind, worlds, answered):
        places = [at for at, fact in enumerate(before) if fact[0] in (3, 4)]
        for many in range(len(places) + 1):
            for chosen in itertools.combinations(places, many):
                facts = behind + [before[at] for at in chosen]
                fit = all(so_in(facts, names, heap) for names, heap in worlds)
                if answered == [1, many] + list(chosen):
                    self.assertTrue(fit)
                    return
                # With more names these worlds are too small to tell of every telling that it isn't so.
                if n <= 2:
                    self.assertFalse(fit, chosen)
        self.assertEqual(answered, [0])

    def check_runs(self, n, before, steps, behind, worlds, answered):
        """triple; or safe, where behind is None."""
        def is_bad(end):
            return end[1] is not None or (behind is not None and not so_in(behind, end[2], end[3]))

        def has_bad(names, heap):
            return any(is_bad(end) for end in runs(steps, names, heap, plain_places))

        if answered == [1]:
            for names, heap in worlds:
                for end in runs(steps, names, heap, every_place):
                    self.assertFalse(is_bad(end), (names, heap, end))
            return
        self.assertEqual(answered[0], 0)
        names, heap, rest = self.first_of(before, len(steps) + 2, n, worlds, answered[1:], has_bad)
        places, fault, names, heap = [end for end in runs(steps, names, heap, plain_places) if is_bad(end)][0]
        expected = [len(places)] + places
        if behind is None:
            expected += [fault]
        else:
            expected += [2] if fault is None else [1, fault]
        self.assertEqual(rest, expected)

    def check_line(self, n, before, steps, behind, x, y):
        calls = calls_for(n, before, steps, behind)
        calls += [can(0), can(1), surely(0, x, y), surely(1, x, y), says(), frame(), triple(), safe()]
        answered = taken_apart(answers(joined(calls)))[-8:]
        worlds = [(names, heap) for names, heap in worlds_of(n) if so_in(before, names, heap)]
        worlds_behind = [(names, heap) for names, heap in worlds_of(n) if so_in(behind, names, heap)]
        with self.subTest(n=n, before=before, steps=steps, behind=behind):
            if GREATEST[n] >= n:
                self.check_can(n, before, worlds, answered[0])
                self.check_can(n, behind, worlds_behind, answered[1])
                self.check_surely(x, y, worlds, answered[2])
                self.check_surely(x, y, worlds_behind, answered[3])
            self.check_says(n, before, behind, worlds, answered[4])
            self.check_frame(n, before, behind, worlds, answered[5])
            self.check_runs(n, before, steps, behind, worlds, answered[6])
            self.check_runs(n, before, steps, None, worlds, answered[7])
        return answered

    def check_lines(self, seed, n, many):
        chance = random.Random(seed)
        seen = set()
        for line in range(many):
            before = some_facts(chance, n, 4)
            behind = some_facts(chance, n, 4)
            if line % 2 == 0:
                behind = [fact for fact in before if chance.random() < 0.9]
            x, y = chance.randint(0, n), chance.randint(0, n)
            answered = self.check_line(n, before, some_steps(chance, n, 4), behind, x, y)
            seen |= set((at, answered[at][0]) for at in range(8))
        # Each of them is answered in each way.
        for at in (0, 1, 4, 5, 6, 7):
            self.assertLessEqual({(at, 0), (at, 1)}, seen)
        for number in (0, 1, 2, -6):
            self.assertIn((2, number), seen)

    def test_one_name(self):
        self.check_lines(11, 1, 120)

    def test_two_names(self):
        self.check_lines(12, 2, 60)

    def test_three_names(self):
        self.check_lines(13, 3, 120)

    def test_four_names(self):
        self.check_lines(14, 4, 120)

    def test_lines_that_hold(self):
        lists = [(4, 1, 0)]
        full = lists + [(2, 1, 0)]
        for before, steps, behind in (
                (lists, [(9, 2, 0), (8, 2, 1), (6, 1, 2)], lists),
                (full, [(7, 2, 1), (10, 1, 0), (6, 1, 2)], lists),
                (full, [(7, 2, 1), (8, 1, 0), (10, 1, 0)], [(4, 2, 0)]),
                ([(4, 1, 2), (3, 2, 1)], [(7, 1, 2), (7, 2, 2)], [(4, 1, 2), (3, 2, 1)])):
            for n in (2, 3):
                answered = self.check_line(n, before, steps, behind, 1, 2)
        answered = self.check_line(2, full, [(7, 2, 1), (10, 1, 0), (6, 1, 2)], lists, 0, 1)
        self.assertEqual(answered[6:], [[1], [1]])


class OneWorld(unittest.TestCase):
    def test_fits_and_run(self):
        chance = random.Random(21)
        seen = set()
        for n in (1, 2, 3, 4):
            for line in range(150):
                facts = some_facts(chance, n, 4)
                steps = some_steps(chance, n, 4)
                worlds = chance.sample(worlds_of(n), 6)
                fitting = [both for both in chance.sample(worlds_of(n), 1000) if so_in(facts, *both)]
                worlds += fitting[:6]
                calls = calls_for(n, facts, steps, facts)
                asks = []
                for names, heap in worlds:
                    asks += [fits(0, handed(names[1:], heap)), fits(1, handed(names[1:], heap))]
                fit = firsts(calls + asks)[len(calls):]
                self.assertEqual(fit, [int(so_in(facts, *both)) for both in worlds for p in (0, 1)], facts)
                seen |= set(fit)
                asks = [run(handed(names[1:], heap)) for names, heap in worlds]
                ends = taken_apart(answers(joined(calls + asks)))[len(calls):]
                for (names, heap), end in zip(worlds, ends):
                    places, fault, names, heap = runs(steps, names, heap, plain_places)[-1]
                    self.assertEqual(end, [1] + world(names[1:], heap) if fault is None else [0, fault])
        self.assertEqual(seen, {0, 1})


if __name__ == "__main__":
    unittest.main()
