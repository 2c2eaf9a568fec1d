"""[5], [6], [9] (C1), [27], [28]: direct runs, alike runs, and the events of one party."""

import inspect
import unittest
from itertools import product
from random import Random

from ascalls.errors import NotCalls, NotUsable
from ascalls.letters import is_direct, letters_of, shortest_ring
from ascalls.orders import are_alike, direct_run, doings_of, events_of, moves_of
from ascalls.runs import contents_of, is_run, places_after, stand_after
from tests import model
from tests.samples import (ASK, ASK_CALLED, BOTH, DONE, EMPTY, LIES, MADE, NEVER, PROGRAMS, ROUND, SOMETIMES, TURN, TWO,
                           TWO_BAG, fields, kinds_in, outcome, returned, unusable)
from tests.test_letters import CROSS, MANY, THREE_RING, TWO_RING

THINGS = NEVER + SOMETIMES
STRAIGHT = (('ann', 0), ('bob', 0), ('ann', 1))


def error_of_direct_run(program, made):
    """The NotCalls that direct_run raises."""
    try:
        direct_run(program, made)
    except NotCalls as error:
        return error
    return None


class DirectTests(unittest.TestCase):
    def test_examples(self):
        self.assertEqual(direct_run(TWO, MADE), STRAIGHT)
        self.assertEqual([are_alike(TWO, MADE, STRAIGHT), are_alike(TWO, MADE, LIES)], [True, False])
        told = [list(moves_of(TWO, STRAIGHT)), events_of(TWO, MADE, 'bob'), doings_of(TWO, MADE, 'bob')]
        self.assertEqual(told, [[(('ann', 0), ('bob', 0)), (('ann', 1),)], (('bob', 0),), (('take', 'x', 'hi'),)])
        error = error_of_direct_run(ROUND, TURN)
        self.assertEqual(error.run, TURN)
        self.assertEqual(sorted(error.ring), [0, 1, 2])

    def test_the_error(self):
        for program, made, size in ((BOTH, CROSS, 2), (ROUND, TURN, 3), (MANY, THREE_RING, 3), (MANY, TWO_RING, 2)):
            error = error_of_direct_run(program, made)
            self.assertIs(error.run, made)
            self.assertIsInstance(error.ring, tuple)
            self.assertEqual(len(error.ring), size)
            self.assertEqual(sorted(fields(error)[1]), ['ring', 'run'])

    def test_a_direct_run_stays(self):
        for program, made in ((EMPTY, ()), (ASK, DONE), (ASK_CALLED, DONE), (TWO, LIES), (TWO, STRAIGHT)):
            self.assertEqual(outcome(direct_run, program, made), returned(made))
        self.assertEqual(direct_run(made=MADE, program=TWO_BAG), STRAIGHT)

    def test_each_run_has_a_direct_one_or_a_ring(self):
        for program, state in self.states():
            made = tuple(state.events)
            ring = model.least_cycle_size(state)
            self.assertEqual(shortest_ring(program, made) is None, ring is None)
            error = error_of_direct_run(program, made)
            if ring is None:
                self.assertIs(error, None)
                straight = direct_run(program, made)
                self.assertTrue(is_run(program, straight))
                self.assertTrue(is_direct(program, straight))
                self.assertEqual(model.by_party(program, straight), model.by_party(program, made))
            else:
                self.assertEqual(error.run, made)
                self.assertEqual(len(error.ring), ring)
                self.assertTrue(model.is_ring(state, error.ring))

    def states(self):
        random = Random(17)
        for program in PROGRAMS + (MANY,):
            for state in list(model.all_states(program, 4).values())[:60]:
                yield program, state
            for _ in range(5):
                yield program, model.random_state(program, random, 10)
            yield program, model.random_state(program, random, 80)
        for _ in range(80):
            program = model.random_program(random)
            for _ in range(4):
                yield program, model.random_state(program, random, 8)

    def test_c1(self):
        """A run is as calls exactly if some direct run, of all runs, is alike to it."""
        random = Random(23)
        programs = PROGRAMS + (MANY,) + tuple(model.random_program(random) for _ in range(30))
        for program in programs:
            states = model.all_states(program, 4)
            if len(states) > 2000:
                continue
            direct = {model.by_party(program, made) for made, state in states.items() if model.is_direct(state)}
            for made in states:
                alike = model.by_party(program, made) in direct
                self.assertEqual(error_of_direct_run(program, made) is None, alike)
                self.assertEqual(shortest_ring(program, made) is None, alike)

    def test_not_usable(self):
        for made in THINGS + (DONE[1:], list(DONE), DONE + DONE):
            if made != ():
                self.assertEqual(outcome(direct_run, ASK, made), unusable('made'))
                self.assertEqual(outcome(are_alike, ASK, made, made), unusable('made'))
                self.assertEqual(outcome(are_alike, ASK, DONE, made), unusable('other'))
                self.assertEqual(outcome(events_of, ASK, made, None), unusable('made'))
                self.assertEqual(outcome(doings_of, ASK, made, None), unusable('made'))


class AlikeTests(unittest.TestCase):
    def test_alike(self):
        self.assertEqual(outcome(are_alike, EMPTY, (), ()), returned(True))
        self.assertEqual(outcome(are_alike, ASK, DONE, DONE), returned(True))
        self.assertEqual(outcome(are_alike, ASK, DONE, DONE[:3]), returned(False))
        self.assertEqual(outcome(are_alike, BOTH, CROSS[:2], CROSS[1::-1]), returned(True))
        self.assertIs(are_alike(other=STRAIGHT, made=MADE, program=TWO), True)

    def test_all_pairs(self):
        for program in (ASK, BOTH, TWO, TWO_BAG, ROUND, ASK_CALLED):
            runs = list(model.all_states(program, 4))
            for made, other in product(runs, repeat=2):
                alike = model.by_party(program, made) == model.by_party(program, other)
                self.assertIs(are_alike(program, made, other), alike)

    def test_alike_runs_have_equal_places_contents_and_stands(self):
        random = Random(29)
        for program in PROGRAMS + tuple(model.random_program(random) for _ in range(20)):
            by_parts = {}
            for made in list(model.all_states(program, 4))[:150]:
                by_parts.setdefault(model.by_party(program, made), []).append(made)
            for runs in by_parts.values():
                told = {(places_after(program, made), contents_of(program, made), stand_after(program, made),
                         shortest_ring(program, made) is None, self.mates(program, made)) for made in runs}
                self.assertEqual(len(told), 1)

    def mates(self, program, made):
        """The pairs (channel, i, j) of the i-th put and the j-th take that are of one letter."""
        rows = letters_of(program, made)
        found = []
        for channel in program[1]:
            own = [row for row in rows if row[0] == channel[0]]
            takes = sorted(row[3] for row in own if row[3] is not None)
            found.extend((channel[0], i, takes.index(row[3])) for i, row in enumerate(own) if row[3] is not None)
        return tuple(found)


class EventTests(unittest.TestCase):
    def test_events_and_doings(self):
        self.assertEqual(outcome(events_of, ASK, DONE, 'ann'), returned((('ann', 0), ('ann', 1))))
        self.assertEqual(outcome(doings_of, ASK, DONE, 'ann'), returned((('put', 'out', 'hi'), ('take', 'back', 'ok'))))
        self.assertEqual(outcome(events_of, ASK, (), 'bob'), returned(()))
        self.assertEqual(outcome(doings_of, ASK, (), 'bob'), returned(()))
        self.assertEqual(outcome(events_of, ROUND, TURN, 'cid'), returned((('cid', 0), ('cid', 1))))
        self.assertEqual(events_of(party='bob', made=DONE, program=ASK), (('bob', 0), ('bob', 1)))
        self.assertEqual(doings_of(party='bob', made=DONE, program=ASK), (('take', 'out', 'hi'), ('put', 'back', 'ok')))

    def test_party(self):
        for thing in THINGS + ('cid', 'out', ['ann']):
            if thing != 'ann':
                self.assertEqual(outcome(events_of, ASK, DONE, thing), unusable('party'))
                self.assertEqual(outcome(doings_of, ASK, DONE, thing), unusable('party'))


class MoveTests(unittest.TestCase):
    def moves(self, program, made):
        return list(moves_of(program, made))

    def test_moves(self):
        self.assertEqual(self.moves(EMPTY, ()), [])
        self.assertEqual(self.moves(TWO, LIES), [(('ann', 0),), (('ann', 1),)])
        self.assertEqual(self.moves(ASK, DONE), [DONE[:2], DONE[2:]])
        self.assertEqual(self.moves(ASK_CALLED, DONE), [DONE[:2], DONE[2:]])
        self.assertEqual(list(moves_of(made=STRAIGHT, program=TWO)), [STRAIGHT[:2], STRAIGHT[2:]])

    def test_the_errors_come_with_the_first_move(self):
        for program, made in ((TWO, MADE), (ROUND, TURN), (ASK, DONE[1:]), (ASK, list(DONE)), (ASK, None), (BOTH, CROSS)):
            moves = moves_of(program, made)
            self.assertTrue(inspect.isgenerator(moves))
            with self.assertRaises(NotUsable) as told:
                next(moves)
            self.assertEqual(fields(told.exception), ('NotUsable', {'word': 'made', 'at': -1}))

    def test_moves_are_yielded_one_by_one(self):
        moves = moves_of(ASK, DONE)
        self.assertEqual(next(moves), DONE[:2])
        self.assertEqual(next(moves), DONE[2:])
        with self.assertRaises(StopIteration):
            next(moves)

    def test_moves_of_direct_runs(self):
        random = Random(31)
        for program in PROGRAMS + tuple(model.random_program(random) for _ in range(30)):
            for made, state in list(model.all_states(program, 4).items())[:150]:
                if model.is_direct(state):
                    moves = self.moves(program, made)
                    self.assertEqual(kinds_in(sum(moves, ())), kinds_in(made))
                    taken = {row[2]: row[3] for row in state.letters if row[3] is not None}
                    pairs = [(made[put], made[take]) for put, take in taken.items()]
                    self.assertEqual([move for move in moves if len(move) == 2], pairs)
                    self.assertEqual(len(moves), len(made) - len(pairs))
                else:
                    with self.assertRaises(NotUsable):
                        self.moves(program, made)


if __name__ == '__main__':
    unittest.main()
