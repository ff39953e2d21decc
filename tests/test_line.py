"""What a line keeps: which facts and steps, in which order, and all of it after a refusal."""

import copy
import unittest

from pieceheaps.desk import answer
from pieceheaps.line import Line
from tests.helper import FACTS, TOP, TWO_NAME_STEPS
from tests.helper import cell, chain, clear, differ, free, let, load, new, same, start, store

FILLINGS = (
    [],
    [start(1), same(0, 1, 0), let(1, 0)],
    [start(4), chain(1, 4, 0), cell(0, 4, 3), new(4), free(4)],
    [same(0, 1, 2)] * 8 + [chain(1, 1, 2)] * 3 + [store(1, 2)] * 4,
    [start(2)] + [chain(0, 1, 2)] * 3 + [differ(1, 1, 2)] * 8 + [new(2)] * 3,
)
EDGES = (0, 1, 2, 3, 4, 5, TOP)


def say(line, call):
    return answer(line, call[0], call[1:])


def kept(line):
    return copy.deepcopy((line.greatest, line.tellings, line.steps))


def filled(calls):
    line = Line()
    for call in calls:
        say(line, call)
    return line


def every_call():
    calls = [start(a) for a in EDGES] + [clear(a) for a in EDGES]
    calls += [new(a) for a in EDGES] + [free(a) for a in EDGES]
    calls += [step(a, b) for step in TWO_NAME_STEPS for a in EDGES for b in EDGES]
    calls += [fact(a, b, c) for fact in FACTS for a in EDGES for b in EDGES for c in EDGES]
    return calls


def told(line, call):
    """What the document's points 1 and 2 ask of this call, and what is kept then."""
    n, tellings, steps = kept(line)
    kind, numbers = call[0], call[1:]
    refusals = []
    if kind == 0:
        refusals = [-1] * (numbers[0] not in (1, 2, 3, 4))
        answered, after = numbers[0], (numbers[0], [[], []], [])
    elif kind == 5:
        refusals = [-1] * (numbers[0] not in (0, 1))
        if not refusals:
            answered = len(tellings[numbers[0]])
            tellings[numbers[0]] = []
        after = (n, tellings, steps)
    elif kind < 5:
        refusals = [-1] * (numbers[0] not in (0, 1)) + [-2] * (max(numbers[1:]) not in range(n + 1))
        if not refusals:
            telling = tellings[numbers[0]]
            chains = [fact[0] for fact in telling].count(4)
            refusals = [-5] * (len(telling) == 8 or (kind == 4 and chains == 3))
            telling.append((kind, numbers[1], numbers[2]))
            answered = len(telling)
        after = (n, tellings, steps)
    else:
        refusals = [-2] * (max(numbers) not in range(n + 1))
        refusals += [-1] * (kind in (6, 7, 9) and numbers[0] == 0)
        refusals += [-5] * (len(steps) == 4)
        steps.append((kind, numbers[0], (numbers + [0])[1]))
        answered, after = len(steps), (n, tellings, steps)
    if refusals:
        return [refusals[0]], kept(line)
    return [answered], after


class Kept(unittest.TestCase):
    def test_beginning(self):
        self.assertEqual(kept(Line()), (3, [[], []], []))

    def test_facts_in_order(self):
        line = filled([chain(1, 3, 0), same(0, 1, 2), cell(0, 2, 3), differ(0, 3, 1), chain(0, 0, 1), same(1, 0, 0)])
        before = [(1, 1, 2), (3, 2, 3), (2, 3, 1), (4, 0, 1)]
        behind = [(4, 3, 0), (1, 0, 0)]
        self.assertEqual(kept(line), (3, [before, behind], []))

    def test_steps_in_order(self):
        line = filled([free(3), let(1, 2), load(2, 3), store(0, 1)])
        self.assertEqual(line.steps, [(10, 3, 0), (6, 1, 2), (7, 2, 3), (8, 0, 1)])
        self.assertEqual(filled([new(2)]).steps, [(9, 2, 0)])

    def test_every_call_at_its_edges(self):
        for calls in FILLINGS:
            for call in every_call():
                line = filled(calls)
                expected = told(line, call)
                self.assertEqual((say(line, call), kept(line)), expected, (calls, call))

    def test_a_refusal_leaves_all_as_it_was(self):
        refused = 0
        for calls in FILLINGS:
            line = filled(calls)
            for call in every_call():
                was = kept(line)
                if say(line, call)[0] < 0:
                    refused += 1
                    self.assertEqual(kept(line), was, (calls, call))
                else:
                    line = filled(calls)
        self.assertGreater(refused, 0)


if __name__ == "__main__":
    unittest.main()
