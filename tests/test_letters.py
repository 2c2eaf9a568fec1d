"""[4], [5], [24] to [26]: letters, ahead, behind, rings and direct runs."""

import unittest
from itertools import product
from random import Random

from ascalls.letters import is_ahead, is_behind, is_direct, letters_of, shortest_ring
from tests import model
from tests.samples import (ASK, ASK_CALLED, BOTH, DONE, EMPTY, LIES, MADE, MIXED, NEVER, PROGRAMS, ROUND, SOMETIMES, TURN, TWO,
                           TWO_BAG, outcome, returned, unusable)

THINGS = NEVER + SOMETIMES
CROSS = (('ann', 0), ('bob', 0), ('ann', 1), ('bob', 1))
# ann puts a letter into each of two rings with bob: one of two letters, one of three with cid.
MANY = (
    (('ann', (), ((0, ('put', 'x', 'a'), 0), (0, ('put', 'y', 'a'), 0), (0, ('take', 'w', 'a'), 0))),
     ('bob', (), ((0, ('take', 'x', 'a'), 0), (0, ('take', 'z', 'a'), 0), (0, ('put', 'w', 'a'), 0))),
     ('cid', (), ((0, ('take', 'y', 'a'), 0), (0, ('put', 'z', 'a'), 0)))),
    (('w', 'bob', 'ann', 'queue'), ('x', 'ann', 'bob', 'bag'), ('y', 'ann', 'cid', 'queue'), ('z', 'cid', 'bob', 'queue')),
)
THREE_RING = (('ann', 0), ('ann', 1), ('cid', 0), ('cid', 1), ('bob', 1), ('bob', 0))
TWO_RING = THREE_RING[:5] + (('bob', 2), ('ann', 2), ('bob', 0))


def states_to_compare(most, many):
    """Pairs of a program and a state of a run of it."""
    random = Random(11)
    for program in PROGRAMS + (MANY,):
        for state in list(model.all_states(program, most).values())[:many]:
            yield program, state
        for _ in range(6):
            yield program, model.random_state(program, random, 9)
    for _ in range(60):
        program = model.random_program(random)
        for _ in range(4):
            yield program, model.random_state(program, random, 8)


class LetterTests(unittest.TestCase):
    def test_examples(self):
        self.assertEqual(letters_of(ROUND, TURN), (('x', 'hi', 0, 5), ('y', 'hi', 1, 2), ('z', 'hi', 3, 4)))
        found = [is_ahead(ROUND, TURN, 0, 1), is_ahead(ROUND, TURN, 0, 2), is_behind(ROUND, TURN, 0, 0),
                 sorted(shortest_ring(ROUND, TURN))]
        self.assertEqual(found, [True, False, True, [0, 1, 2]])
        found = [is_behind(ASK, DONE, 1, 0), is_behind(ASK, DONE, 0, 1), shortest_ring(ASK, DONE), is_direct(ASK, DONE)]
        self.assertEqual(found, [True, False, None, True])

    def test_letters_of(self):
        self.assertEqual(outcome(letters_of, EMPTY, ()), returned(()))
        self.assertEqual(outcome(letters_of, TWO, LIES), returned((('x', 'hi', 0, None), ('x', 'hi', 1, None))))
        self.assertEqual(outcome(letters_of, TWO, MADE), returned((('x', 'hi', 0, 2), ('x', 'hi', 1, None))))
        self.assertEqual(outcome(letters_of, TWO_BAG, MADE), returned((('x', 'hi', 0, 2), ('x', 'hi', 1, None))))
        self.assertEqual(outcome(letters_of, ASK_CALLED, DONE), returned((('out', 'hi', 0, 1), ('back', 'ok', 2, 3))))
        self.assertEqual(letters_of(made=DONE[:1], program=ASK), (('out', 'hi', 0, None),))

    def test_letters_of_one_name_are_taken_in_order(self):
        bag = ((('ann', (), ((0, ('put', 'q', 'a'), 0), (0, ('put', 'q', 'b'), 0))),
                ('bob', (), ((0, ('take', 'q', 'a'), 0), (0, ('take', 'q', 'b'), 0)))), (('q', 'ann', 'bob', 'bag'),))
        made = (('ann', 0), ('ann', 1), ('ann', 0), ('ann', 1), ('bob', 1), ('bob', 0), ('bob', 0))
        rows = (('q', 'a', 0, 5), ('q', 'b', 1, 4), ('q', 'a', 2, 6), ('q', 'b', 3, None))
        self.assertEqual(letters_of(bag, made), rows)

    def test_ahead_and_behind_of_letters_that_are_not_taken(self):
        self.assertTrue(is_ahead(TWO, LIES, 0, 1))
        self.assertFalse(is_ahead(TWO, LIES, 1, 0))
        self.assertTrue(is_behind(TWO, LIES, 1, 0))
        self.assertFalse(is_behind(TWO, LIES, 0, 1))
        self.assertFalse(is_ahead(TWO, LIES, 0, 0))
        self.assertFalse(is_behind(TWO, LIES, 0, 0))

    def test_crossing_letters(self):
        for m, n in ((0, 1), (1, 0)):
            self.assertEqual(outcome(is_ahead, BOTH, CROSS, m, n), returned(True))
            self.assertEqual(outcome(is_behind, BOTH, CROSS, m, n), returned(True))
        self.assertEqual(outcome(is_ahead, BOTH, CROSS, 0, 0), returned(False))
        self.assertEqual(outcome(is_behind, BOTH, CROSS, 0, 0), returned(True))
        self.assertEqual(sorted(shortest_ring(BOTH, CROSS)), [0, 1])
        self.assertIs(shortest_ring(BOTH, CROSS[:3]), None)
        self.assertFalse(is_direct(BOTH, CROSS))

    def test_the_least_of_several_rings(self):
        self.assertEqual(len(shortest_ring(MANY, THREE_RING)), 3)
        self.assertEqual(len(shortest_ring(MANY, TWO_RING)), 2)
        self.assertTrue(is_behind(MANY, TWO_RING, 1, 1))
        self.assertIs(shortest_ring(MANY, THREE_RING[:5]), None)

    def test_a_letter_in_no_ring_beside_one(self):
        made = (('ann', 1), ('cid', 0)) + THREE_RING
        self.assertEqual(len(shortest_ring(MANY, made)), 3)
        self.assertFalse(is_behind(MANY, made, 0, 0))
        self.assertTrue(is_behind(MANY, made, 1, 0))
        self.assertFalse(is_behind(MANY, made, 0, 1))

    def test_direct(self):
        for program, made, direct in ((EMPTY, (), True), (TWO, LIES, True), (TWO, MADE, False), (ASK, DONE, True),
                                      (TWO, (('ann', 0), ('bob', 0), ('ann', 1)), True), (ROUND, TURN, False),
                                      (TWO, (('ann', 0), ('ann', 1), ('bob', 0), ('bob', 1)), False)):
            self.assertEqual(outcome(is_direct, program, made), returned(direct))

    def test_not_usable(self):
        for made in THINGS + (DONE[1:], list(DONE), DONE + DONE):
            if made != ():
                self.assertEqual(outcome(letters_of, ASK, made), unusable('made'))
                self.assertEqual(outcome(shortest_ring, ASK, made), unusable('made'))
                self.assertEqual(outcome(is_direct, ASK, made), unusable('made'))
                self.assertEqual(outcome(is_ahead, ASK, made, None, None), unusable('made'))
                self.assertEqual(outcome(is_behind, ASK, made, None, None), unusable('made'))
        for function in (is_ahead, is_behind):
            for thing in (2, -1, True, False, None, '0', (0,), [0], [], (), 10 ** 59):
                self.assertEqual(outcome(function, ASK, DONE, thing, 0), unusable('m'))
                self.assertEqual(outcome(function, ASK, DONE, 0, thing), unusable('n'))
                self.assertEqual(outcome(function, ASK, DONE, thing, thing), unusable('m'))
                self.assertEqual(outcome(function, EMPTY, (), thing, thing), unusable('m'))
            self.assertEqual(outcome(function, EMPTY, (), 0, 0), unusable('m'))
            self.assertTrue(function(n=1, m=0, made=CROSS, program=BOTH))
        self.assertIs(shortest_ring(made=DONE, program=ASK), None)
        self.assertIs(is_direct(made=DONE, program=ASK), True)

    def test_the_same_as_the_model(self):
        for program, state in states_to_compare(4, 60):
            made = tuple(state.events)
            self.assertEqual(outcome(letters_of, program, made), returned(tuple(tuple(row) for row in state.letters)))
            self.assertEqual(outcome(is_direct, program, made), returned(model.is_direct(state)))
            ahead, behind = model.ahead_pairs(state), model.behind_pairs(state)
            for m, n in product(range(len(state.letters)), repeat=2):
                self.assertEqual(outcome(is_ahead, program, made, m, n), returned((m, n) in ahead))
                self.assertEqual(outcome(is_behind, program, made, m, n), returned((m, n) in behind))
            self.check_ring(program, made, state, model.least_cycle_size(state))
            if len(state.letters) <= 5:
                self.assertEqual(model.least_cycle_size(state), model.least_ring_size(state))

    def check_ring(self, program, made, state, size):
        ring = shortest_ring(program, made)
        if size is None:
            self.assertIs(ring, None)
        else:
            self.assertIsInstance(ring, tuple)
            self.assertEqual(len(ring), size)
            self.assertTrue(model.is_ring(state, ring), (program, made, ring))

    def test_a_letter_is_behind_itself_exactly_in_a_ring(self):
        for program, state in states_to_compare(4, 20):
            made = tuple(state.events)
            rings = [m for m in range(len(state.letters)) if is_behind(program, made, m, m)]
            self.assertEqual(shortest_ring(program, made) is None, rings == [])

    def test_eighty_events(self):
        random = Random(3)
        for program in (MANY, MIXED, BOTH, ROUND):
            for _ in range(4):
                state = model.random_state(program, random, 80)
                made = tuple(state.events)
                self.assertEqual(letters_of(program, made), tuple(tuple(row) for row in state.letters))
                self.check_ring(program, made, state, model.least_cycle_size(state))
                if state.letters:
                    self.assertIn(is_behind(program, made, 0, len(state.letters) - 1), (True, False))

    def test_letters_that_lie_in_any_number(self):
        loops = ((('ann', (), ((0, ('put', 'q', 'a'), 0), (0, ('take', 'r', 'b'), 0))),
                  ('bob', (), ((0, ('take', 'q', 'a'), 0), (0, ('put', 'r', 'b'), 0)))),
                 (('q', 'ann', 'bob', 'queue'), ('r', 'bob', 'ann', 'bag')))
        puts = (('ann', 0),) * 39 + (('bob', 1),) * 39
        self.assertIs(shortest_ring(loops, puts), None)
        self.assertEqual(len(letters_of(loops, puts)), 78)
        self.assertIs(shortest_ring(loops, puts + (('bob', 0),)), None)
        self.assertEqual(len(shortest_ring(loops, puts + (('bob', 0), ('ann', 1)))), 2)
        self.assertTrue(is_behind(loops, puts, 38, 0))
        self.assertFalse(is_behind(loops, puts, 39, 0))


if __name__ == '__main__':
    unittest.main()
