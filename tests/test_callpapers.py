"""[9] (C8), [39], [40]: papers of judging and their checker."""

import unittest
from random import Random

from ascalls.callchecker import lets_calls
from ascalls.callpapers import call_paper
from ascalls.judging import fewest_to_ring, is_as_calls
from tests import model, standmodel
from tests.samples import (ASK, ASK_CALLED, BARE, BOTH, DONE, EMPTY, MIXED_CALLS, NEVER, PROGRAMS, ROUND, ROUND_CALLED, SOMETIMES,
                           TURN, TWO, TWO_BAG, kinds_in, mutants, outcome, paper, returned, with_forms)
from tests.test_judging import LOOP, PASS, THREE
from tests.test_letters import CROSS, MANY, THREE_RING, TWO_RING
from tests.test_runclasses import BAGS, CHOICE

THINGS = NEVER + SOMETIMES
# Nobody takes z; behind it two letters overtake each other: on the bag only.
LEFT = ((('ann', (), ((0, ('put', 'q', 'z'), 1), (1, ('put', 'q', 'a'), 2), (2, ('put', 'q', 'b'), 3))),
         ('bob', (), ((0, ('take', 'q', 'b'), 1), (1, ('take', 'q', 'a'), 2)))), (('q', 'ann', 'bob', 'bag'),))


def expected(program, thing):
    """What lets_calls has to return or raise, by the model."""
    verdict = standmodel.verdict(program, thing)
    return returned(verdict) if isinstance(verdict, bool) else paper(*verdict)


def safe_table(program):
    """All watched stands, also such as cannot come, from which no moves lead to one that crosses."""
    every = standmodel.all_watched(program)
    after = {watched: {later for _, later in standmodel.watched_moves(program, watched)} for watched in every}
    safe = {watched for watched in every if not standmodel.crosses(program, watched)}
    size = None
    while len(safe) != size:
        size = len(safe)
        safe = {watched for watched in safe if after[watched] <= safe}
    return tuple(watched for watched in every if watched in safe)


class PaperTests(unittest.TestCase):
    def check(self, program, as_calls):
        made = call_paper(program)
        self.assertIs(type(made), tuple)
        self.assertEqual(made[0], 'table' if as_calls else 'ring')
        self.assertEqual(outcome(lets_calls, program, made), returned(as_calls))
        if as_calls:
            self.assertEqual(len(made), 2)
            self.assertIs(type(made[1]), tuple)
            self.assertEqual(len(set(made[1])), len(made[1]))
            self.assertEqual(set(made[1]), set(standmodel.watched_costs(program)))
        else:
            self.assertEqual(len(made), 3)
            self.assertEqual([type(part) for part in made], [str, tuple, tuple])

    def test_papers(self):
        random = Random(137)
        for program in PROGRAMS + (THREE, PASS, LOOP, MANY, LEFT, BAGS, CHOICE):
            self.check(program, is_as_calls(program))
        for program in standmodel.finite_programs(random, 40) + tuple(model.random_program(random) for _ in range(30)):
            self.check(program, standmodel.fewest_to_cross(program) is None)

    def test_programs_without_anything_and_with_calls_alone(self):
        self.assertEqual(outcome(call_paper, EMPTY), returned(('table', (((), (), ()),))))
        self.assertEqual(outcome(call_paper, BARE), returned(('table', (((0, 0), ((),), ()),))))
        for program in PROGRAMS + (THREE, PASS, LOOP, MANY):
            self.check(with_forms(program, *['call'] * len(program[1])), True)
        self.assertEqual(call_paper(program=EMPTY)[0], 'table')

    def test_a_letter_that_nobody_takes(self):
        self.check(LEFT, False)
        self.assertEqual(fewest_to_ring(LEFT), 5)
        self.check(with_forms(LEFT, 'queue'), True)
        self.check(with_forms(LEFT, 'call'), True)


class CheckerTests(unittest.TestCase):
    def check(self, program, thing):
        self.assertEqual(outcome(lets_calls, program, thing), expected(program, thing), thing)

    def test_examples(self):
        told = [lets_calls(BOTH, ('ring', CROSS, (0, 1))), lets_calls(((), ()), ('table', (((), (), ()),)))]
        self.assertEqual(told, [False, True])
        self.assertEqual(outcome(lets_calls, ASK, ('table', (((0, 0), ((), ()), ()),))), paper('move', 0))
        self.assertEqual(outcome(lets_calls, BOTH, ('ring', CROSS[:2], (0, 1))), paper('ahead', 0))

    def test_shape(self):
        for program in (EMPTY, ASK, BOTH):
            for thing in THINGS + (('table',), ('table', ()) + ((),), ('table', []), ('table', 'ab'), ('table', None), ('ring',),
                                   ('ring', ()), ('ring', (), (), ()), ('Table', ()), ['table', ()], ['ring', CROSS, (0, 1)], ('ring ', (), ()),
                                   ((), 'table'), 'table', 'ring', (None, ()), ('table', (), ()), ('', (), ()), (['ring'], (), ())):
                self.assertEqual(outcome(lets_calls, program, thing), paper('shape', -1), thing)
        self.assertIs(lets_calls(thing=('ring', CROSS, (0, 1)), program=BOTH), False)

    def test_tables_with_one_place_changed(self):
        for program in (EMPTY, TWO, ASK_CALLED):
            table = call_paper(program)
            for _, changed in mutants(table, THINGS + (2, ('ann',), ('hi',), ('x', 'hi', ('ann',)), ('x', 'hi', ('ann', 'bob')))):
                self.check(program, changed)

    def test_tables_with_a_stand_less_more_or_twice(self):
        random = Random(139)
        for program in (ASK, TWO, TWO_BAG, ASK_CALLED, ROUND_CALLED, EMPTY):
            stands = call_paper(program)[1]
            every = standmodel.all_watched(program)
            for _ in range(25):
                k = random.randrange(len(stands))
                self.check(program, ('table', stands[:k] + stands[k + 1:]))
                self.check(program, ('table', stands + (stands[k],)))
                self.check(program, ('table', stands + (random.choice(every),)))
                self.check(program, ('table', (random.choice(every),) + stands))
                self.check(program, ('table', tuple(random.sample(stands, len(stands)))))

    def test_any_order(self):
        stands = call_paper(ASK)[1]
        for table in (stands[::-1], tuple(sorted(stands)), tuple(sorted(stands))[::-1]):
            self.assertIs(lets_calls(ASK, ('table', table)), True)

    def test_stands_that_cannot_come(self):
        for program in (ASK, TWO, TWO_BAG, ASK_CALLED, with_forms(BOTH, 'call', 'call'), EMPTY, BARE):
            table = safe_table(program)
            self.assertEqual(outcome(lets_calls, program, ('table', table)), returned(True))
            self.assertGreaterEqual(len(table), len(call_paper(program)[1]))
        self.assertGreater(len(safe_table(ASK)), len(call_paper(ASK)[1]))

    def test_words_of_a_table(self):
        first = ((0, 0), ((), ()), ())
        over = ((2, 1), ((), ('hi',)), ('out', 'hi', ('ann', 'bob')))
        stands = call_paper(ASK)[1]
        for table, word, at in (
                ((), 'first', -1), ((None,), 'stand', 0), (stands + (None,), 'stand', len(stands)),
                (stands + (stands[0],), 'stand', len(stands)), (stands + (first,), 'stand', len(stands)), (stands[1:], 'first', -1),
                ((((0, True), ((), ()), ()),), 'stand', 0), ((first, first, None), 'stand', 1),
                ((stands[-1],), 'first', -1), ((stands[-1], stands[-1]), 'stand', 1), ((first,), 'move', 0)):
            self.assertEqual(outcome(lets_calls, ASK, ('table', table)), paper(word, at), table)
        every = tuple(standmodel.watched_costs(BOTH))
        crossing = [k for k, watched in enumerate(every) if standmodel.crosses(BOTH, watched)]
        self.assertEqual(outcome(lets_calls, BOTH, ('table', every)), paper('cross', crossing[0]))
        self.assertEqual(outcome(lets_calls, BOTH, ('table', (over,) + every)), paper('stand', 1 + every.index(over)))
        rest = tuple(watched for watched in every if watched != over)
        self.assertEqual(outcome(lets_calls, BOTH, ('table', (over,) + rest)), paper('cross', 0))
        self.assertEqual(outcome(lets_calls, BOTH, ('table', (rest[0], over) + rest[1:])), paper('cross', 1))

    def test_the_move_of_one_element_comes_before_the_crossing_of_it(self):
        # From this crossing stand ann goes on to one that is not among them.
        program = (((BOTH[0][0][0], (2,), BOTH[0][0][2] + ((2, ('do', 'nap'), 3),)), BOTH[0][1]), BOTH[1])
        every = list(standmodel.watched_costs(program))
        over = ((2, 1), ((), ('hi',)), ('out', 'hi', ('ann', 'bob')))
        table = tuple([over] + [watched for watched in every if watched != over and watched[0][0] != 3])
        self.assertEqual(outcome(lets_calls, program, ('table', table)), paper('move', 0))
        table = tuple([over] + [watched for watched in every if watched != over])
        self.assertEqual(outcome(lets_calls, program, ('table', table)), paper('cross', 0))

    def test_rings_with_one_place_changed(self):
        for program, made, ring in ((BOTH, CROSS, (0, 1)), (ROUND, TURN, (0, 1, 2)), (PASS, None, None)):
            thing = call_paper(program) if made is None else ('ring', made, ring)
            for _, changed in mutants(thing, THINGS + (2, 3)):
                self.check(program, changed)

    def test_rings(self):
        for ring, word, at in (
                ((), 'ring', -1), ((0,), 'ring', -1), ((0, 0), 'ring', -1), ((0, 1, 0), 'ring', -1), ((0, 2), 'ring', -1),
                ((0, True), 'ring', -1), ((False, 1), 'ring', -1), ([0, 1], 'ring', -1), (None, 'ring', -1), ((0, -1), 'ring', -1),
                ((0, '1'), 'ring', -1), (('0', '1'), 'ring', -1), ((0, None), 'ring', -1), ((0, [1]), 'ring', -1)):
            self.assertEqual(outcome(lets_calls, BOTH, ('ring', CROSS, ring)), paper(word, at), ring)
        self.assertIs(lets_calls(BOTH, ('ring', CROSS, (1, 0))), False)
        for ring, verdict in (((0, 1, 2), False), ((1, 2, 0), False), ((2, 0, 1), False), ((0, 2, 1), 0), ((0, 1), 1), ((1, 0), 0),
                              ((2, 1, 0), 0), ((1, 2), 1)):
            wanted = returned(False) if verdict is False else paper('ahead', verdict)
            self.assertEqual(outcome(lets_calls, ROUND, ('ring', TURN, ring)), wanted, ring)

    def test_a_ring_that_is_not_the_shortest(self):
        state = standmodel.state_after(MANY, TWO_RING)
        self.assertEqual(model.least_ring_size(state), 2)
        rings = 0
        for ring in ((0, 1, 2), (1, 2, 0), (0, 3), (3, 0), (0, 1, 2, 3), (3, 0, 1, 2), (1, 2, 3), (0, 2, 3)):
            self.check(MANY, ('ring', TWO_RING, ring))
            rings += model.is_ring(state, ring) and len(ring) > 2
        self.assertGreaterEqual(rings, 2)
        self.assertIs(lets_calls(MANY, ('ring', THREE_RING, (0, 1, 2))), False)

    def test_rings_of_random_runs(self):
        random = Random(149)
        for program in (BOTH, ROUND, MANY, LOOP, PASS, LEFT, MIXED_CALLS) + tuple(model.random_program(random) for _ in range(40)):
            for _ in range(6):
                state = model.random_state(program, random, 10)
                numbers = range(len(state.letters))
                for _ in range(6):
                    ring = tuple(random.sample(numbers, random.randint(0, min(4, len(numbers)))))
                    self.check(program, ('ring', tuple(state.events), ring))

    def test_errors_of_the_run_are_unchanged(self):
        for made, word, at in ((None, 'shape', -1), (list(CROSS), 'shape', -1), ((None,), 'event', 0), (CROSS + CROSS, 'place', 4),
                               (CROSS[2:], 'place', 0), (CROSS[:1] + (('ann', 1),), 'channel', 1), ((('ann', False),), 'event', 0),
                               (CROSS[:3] + (('bob', 2),), 'event', 3)):
            for ring in ((0, 1), None, ()):
                self.assertEqual(outcome(lets_calls, BOTH, ('ring', made, ring)), paper(word, at))
        self.assertEqual(outcome(lets_calls, ASK_CALLED, ('ring', DONE[:1], None)), paper('channel', 0))

    def test_a_long_run(self):
        program = (((BOTH[0][0][0], (), BOTH[0][0][2] + ((2, ('do', 'nap'), 0),)), (BOTH[0][1][0], (), BOTH[0][1][2] + ((2, ('do', 'nap'), 0),))),
                   BOTH[1])
        made = (CROSS + (('ann', 2), ('bob', 2))) * 60
        self.assertIs(lets_calls(program, ('ring', made, (118, 119))), False)
        self.assertEqual(outcome(lets_calls, program, ('ring', made, (0, 119))), paper('ahead', 1))

    def test_accepted_papers_are_true(self):
        """(C8): whatever is accepted states what is so."""
        random = Random(151)
        for program in standmodel.finite_programs(random, 30):
            as_calls = standmodel.fewest_to_cross(program) is None
            every = standmodel.all_watched(program)
            papers = [call_paper(program), ('table', tuple(standmodel.watched_costs(program)))]
            if len(every) < 1500:
                papers.append(('table', safe_table(program)))
            papers += [('table', tuple(random.sample(every, random.randint(0, min(8, len(every)))))) for _ in range(5)]
            for thing in papers:
                kind, told = outcome(lets_calls, program, thing)
                if kind == 'returns':
                    self.assertEqual(told, kinds_in(as_calls))


if __name__ == '__main__':
    unittest.main()
