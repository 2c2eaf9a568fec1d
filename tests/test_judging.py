"""[9] (C1) to (C3), [37], [38]: whether a program is as calls, and the fewest events of a run with a ring."""

import unittest
from random import Random

from ascalls.judging import fewest_to_ring, is_as_calls, ring_run
from ascalls.letters import shortest_ring
from ascalls.programchanges import with_calls
from ascalls.runs import is_run
from tests import model, standmodel
from tests.samples import (ASK, ASK_CALLED, BARE, BOTH, BOTH_CALLED, EMPTY, MIXED, MIXED_BAGS, MIXED_CALLS, PROGRAMS, ROUND,
                           ROUND_CALLED, TWO, TWO_BAG, TWO_CALLED, outcome, returned, with_forms)
from tests.test_letters import MANY
from tests.test_runclasses import BAGS, CHOICE

FINITE = (EMPTY, BARE, ASK, BOTH, ROUND, TWO, TWO_BAG, TWO_CALLED, ASK_CALLED, BOTH_CALLED, ROUND_CALLED)
# x is ahead of y at d, y ahead of x at e. Nobody takes z: with k made a call d never leaves place 0.
THREE = (
    (('d', (3,), ((0, ('put', 'k', 'z'), 1), (1, ('put', 'l', 'x'), 2), (2, ('put', 'm', 'y'), 3))),
     ('e', (2,), ((0, ('take', 'm', 'y'), 1), (1, ('take', 'l', 'x'), 2)))),
    (('k', 'd', 'e', 'queue'), ('l', 'd', 'e', 'queue'), ('m', 'd', 'e', 'queue')),
)
# On one queue no letter can overtake another one, on one bag it can.
PASS = ((('ann', (), ((0, ('put', 'q', 'a'), 1), (1, ('put', 'q', 'b'), 2))),
         ('bob', (), ((0, ('take', 'q', 'b'), 1), (1, ('take', 'q', 'a'), 2)))), (('q', 'ann', 'bob', 'bag'),))
# bob takes the two letters in the order in which they are put, or the second one first, again and again.
LOOP = ((('ann', (0,), ((0, ('put', 'x', 'a'), 1), (1, ('put', 'y', 'b'), 0), (1, ('do', 'nap'), 0))),
         ('bob', (0,), ((0, ('take', 'y', 'b'), 1), (1, ('take', 'x', 'a'), 0), (0, ('take', 'x', 'a'), 0)))),
        (('x', 'ann', 'bob', 'queue'), ('y', 'ann', 'bob', 'queue')))


def fewest_by_runs(program, most):
    """The fewest events, up to so many, of a run with a ring by going through all runs; None if there is none."""
    lengths = [len(made) for made, state in model.all_states(program, most).items() if standmodel.has_ring(state)]
    return min(lengths, default=None)


def renamed(thing, names):
    """The program, or any part of it, with other names."""
    if isinstance(thing, tuple):
        return tuple(renamed(part, names) for part in thing)
    return names.get(thing, thing)


class JudgingTests(unittest.TestCase):
    def check(self, program, fewest):
        self.assertEqual(outcome(is_as_calls, program), returned(fewest is None))
        self.assertEqual(outcome(fewest_to_ring, program), returned(fewest))
        if fewest is None:
            self.assertEqual(outcome(ring_run, program), returned(None))
            return
        result = ring_run(program)
        self.assertIs(type(result), tuple)
        made, ring = result
        self.assertEqual(len(made), fewest)
        self.assertTrue(is_run(program, made))
        self.assertEqual({type(made), type(ring)}, {tuple})
        state = model.State(program)
        for move in self.steps(program, made):
            state = state.do(move)
        self.assertTrue(model.is_ring(state, ring))
        # It ends with a take, and is as calls without it.
        self.assertEqual(model.arrows_of(program)[made[-1]][1][0], 'take')
        self.assertIs(shortest_ring(program, made[:-1]), None)

    def steps(self, program, made):
        """The steps of a run."""
        rest = made
        forms = {row[0]: row[3] for row in program[1]}
        while rest:
            doing = model.arrows_of(program)[rest[0]][1]
            size = 2 if doing[0] == 'put' and forms[doing[1]] == 'call' else 1
            yield rest[:size]
            rest = rest[size:]

    def test_examples(self):
        told = [is_as_calls(ASK), is_as_calls(ROUND), fewest_to_ring(BOTH), fewest_to_ring(ROUND), fewest_to_ring(ASK), ring_run(ASK)]
        self.assertEqual(told, [True, False, 4, 6, None, None])

    def test_some_programs(self):
        self.check(EMPTY, None)
        self.check(BARE, None)
        self.check(ASK, None)
        self.check(BOTH, 4)
        self.check(ROUND, 6)
        self.check(ROUND_CALLED, None)
        self.check(THREE, 5)
        self.check(with_calls(THREE, ('k',)), None)
        self.check(with_calls(THREE, ('l',)), None)
        self.check(with_calls(THREE, ('m',)), 5)
        self.check(PASS, 4)
        self.check(with_forms(PASS, 'queue'), None)
        self.check(with_forms(PASS, 'call'), None)
        self.check(LOOP, 4)
        self.assertIs(is_as_calls(program=BOTH), False)
        self.assertEqual(fewest_to_ring(program=BOTH), 4)
        self.assertEqual(len(ring_run(program=BOTH)), 2)

    def test_all_runs_of_finite_programs(self):
        """(C2), (C3): exactly the programs of which no run has a ring are as calls, and the fewest events are exact."""
        for program in FINITE + (THREE, PASS, BAGS) + standmodel.finite_programs(Random(107), 120):
            self.check(program, fewest_by_runs(program, 99))

    def test_runs_of_programs_with_loops(self):
        random = Random(109)
        programs = [MIXED, MIXED_BAGS, MIXED_CALLS, MANY, LOOP, CHOICE]
        for program in programs + [model.random_program(random) for _ in range(60)]:
            most = 6 if len(model.all_states(program, 5)) < 800 else 5
            found = fewest_by_runs(program, most)
            fewest = fewest_to_ring(program)
            self.assertEqual(found, fewest if fewest is not None and fewest <= most else None)
            self.check(program, fewest)

    def test_moves_of_watched_stands(self):
        """[38]: the fewest events of moves to a watched stand that crosses, and one more; at least four."""
        random = Random(113)
        for program in PROGRAMS + (THREE, PASS, LOOP, MANY) + tuple(model.random_program(random) for _ in range(40)):
            fewest = standmodel.fewest_to_cross(program)
            self.check(program, None if fewest is None else fewest + 1)
            self.assertTrue(fewest is None or fewest >= 3)

    def test_calls_alone(self):
        random = Random(127)
        for program in PROGRAMS + tuple(model.random_program(random) for _ in range(30)):
            self.check(with_forms(program, *['call'] * len(program[1])), None)

    def test_a_ring_may_come_late(self):
        first = ('ann', (), tuple((k, ('do', 'nap'), k + 1) for k in range(5)) + ((5, ('put', 'out', 'hi'), 6), (6, ('take', 'back', 'ok'), 7)))
        program = ((first, BOTH[0][1]), BOTH[1])
        self.check(program, 9)
        self.check(with_forms(program, 'bag', 'bag'), 9)
        self.check(with_forms(program, 'call', 'bag'), 9)
        self.check(with_forms(program, 'call', 'call'), None)

    def test_the_same_with_other_names(self):
        """[44]: other names, and "queue" or "bag" where one letter name alone is put on a channel, do not matter."""
        random = Random(131)
        for program in (BOTH, ROUND, LOOP, THREE) + standmodel.finite_programs(random, 20):
            names = {row[0]: f'n{row[0]}'[:8] for rows in program for row in rows}
            names.update({'a': 'bb', 'b': 'aa', 'hi': 'ok', 'ok': 'hi', 'nap': 'go'})
            other = renamed(program, names)
            self.assertEqual(fewest_to_ring(other), fewest_to_ring(program))
            self.assertEqual(is_as_calls(other), is_as_calls(program))
        for program in (BOTH, ROUND, LOOP, THREE):
            self.assertEqual(fewest_to_ring(with_forms(program, *['bag'] * len(program[1]))), fewest_to_ring(program))


if __name__ == '__main__':
    unittest.main()
