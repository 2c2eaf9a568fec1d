"""[6], [7], [33] to [36]: stands, watched stands, their moves, and which cross."""

import unittest
from random import Random

from ascalls.letters import is_direct
from ascalls.runs import is_run, stand_after
from ascalls.stands import first_stand, is_crossing, moves_from, watched_from
from tests import model, standmodel
from tests.samples import (ASK, ASK_CALLED, BARE, BOTH, BOTH_CALLED, EMPTY, MIXED, MIXED_BAGS, MIXED_CALLS, NEVER, PROGRAMS, ROUND,
                           ROUND_CALLED, SOMETIMES, TWO, TWO_BAG, TWO_CALLED, kinds_in, mutants, outcome, returned, unusable)
from tests.test_letters import MANY
from tests.test_runclasses import BAGS, CHOICE

THINGS = NEVER + SOMETIMES
SMALL = (EMPTY, BARE, ASK, BOTH, TWO, TWO_BAG, TWO_CALLED, ASK_CALLED, BOTH_CALLED, BAGS, CHOICE)
WAITS = ((1, 0), ((), ('hi',)), ('out', 'hi', ('ann',)))
LATER = ((2, 1), ((), ('hi',)), ('out', 'hi', ('ann', 'bob')))
# A bag on which two letters lie, and two places of a party that are no places of its arrows.
AB = ((('ann', (3,), ((0, ('put', 'q', 'a'), 0), (0, ('put', 'q', 'b'), 1))), ('bob', (1, 4), ((0, ('take', 'q', 'b'), 0),))),
      (('q', 'ann', 'bob', 'bag'), ('r', 'bob', 'ann', 'queue')))


def sample_of(rows, random, many):
    """At most so many of these rows."""
    return rows if len(rows) <= many else random.sample(rows, many)


class StandTests(unittest.TestCase):
    def test_examples(self):
        told = [first_stand(ROUND), moves_from(ASK, first_stand(ASK))]
        wanted = [((0, 0, 0), ((), (), ())),
                  (((('ann', 0),), ((1, 0), ((), ('hi',)))), ((('ann', 0), ('bob', 0)), ((1, 1), ((), ()))))]
        self.assertEqual(told, wanted)
        self.assertEqual(outcome(moves_from, ASK, ((0, 0), ((), ('ok',)))), unusable('stand'))
        self.assertEqual(watched_from(BOTH, WAITS), (
            ((('bob', 0),), ((1, 1), (('ok',), ('hi',)), ('out', 'hi', ('ann',)))),
            ((('bob', 0), ('ann', 1)), ((2, 1), ((), ('hi',)), ('out', 'hi', ('ann', 'bob'))))))
        self.assertEqual([is_crossing(BOTH, WAITS), is_crossing(BOTH, LATER)], [False, True])

    def test_first_stand(self):
        self.assertEqual(outcome(first_stand, EMPTY), returned(((), ())))
        self.assertEqual(outcome(first_stand, BARE), returned(((0, 0), ((),))))
        for program in PROGRAMS:
            self.assertEqual(outcome(first_stand, program), returned(stand_after(program, ())))
        self.assertEqual(first_stand(program=ASK), ((0, 0), ((), ())))

    def test_moves_of_all_stands(self):
        random = Random(73)
        for program in SMALL + (ROUND, ROUND_CALLED, MIXED, MIXED_BAGS, MIXED_CALLS, MANY, AB):
            for stand in sample_of(standmodel.all_stands(program), random, 150):
                wanted = tuple(sorted(standmodel.moves(program, stand).items()))
                self.assertEqual(outcome(moves_from, program, stand), returned(wanted), (program, stand))

    def test_moves_of_other_programs(self):
        random = Random(79)
        for _ in range(60):
            program = model.random_program(random)
            for stand in sample_of(standmodel.all_stands(program), random, 30):
                wanted = tuple(sorted(standmodel.moves(program, stand).items()))
                self.assertEqual(outcome(moves_from, program, stand), returned(wanted), (program, stand))

    def test_puts_and_exchanges(self):
        put, exchange = (('ann', 0),), (('ann', 0), ('bob', 1))
        for program, heads, wanted in (
                (AB, (('a',), ()), [((0, 0), (('a',), ())), ((1, 0), (('a', 'b'), ())), ((1, 0), (('a',), ()))]),
                (AB, (('b',), ()), [((0, 0), (('a', 'b'), ())), ((1, 0), (('b',), ()))])):
            self.assertEqual([stand for _, stand in moves_from(program, ((0, 0), heads))], wanted)
        called = ((('ann', (), ((0, ('put', 'q', 'a'), 1),)), ('bob', (), ((0, ('do', 'nap'), 0), (0, ('take', 'q', 'a'), 1)))),
                  (('q', 'ann', 'bob', 'call'),))
        self.assertEqual(moves_from(called, ((0, 0), ((),))), ((exchange, ((1, 1), ((),))), ((('bob', 0),), ((0, 0), ((),)))))
        queued = (called[0], (('q', 'ann', 'bob', 'queue'),))
        self.assertEqual(moves_from(queued, ((0, 0), (('a',),))), ((put, ((1, 0), (('a',),))), ((('bob', 0),), ((0, 0), (('a',),)))))

    def test_what_is_no_stand(self):
        for program, stand in ((ASK, ((1, 0), ((), ('hi',)))), (AB, ((0, 1), (('a', 'b'), ()))), (EMPTY, ((), ())),
                               (ASK_CALLED, ((0, 2), (('ok',), ()))), (BARE, ((0, 7), ((),)))):
            known = {repr(kinds_in(other)) for other in standmodel.all_stands(program)}
            for _, changed in mutants(stand, THINGS + (2, ('a',), ('b',), ('b', 'a'), ('a', 'a'), ('hi', 'ok'), 'ok', 'b')):
                is_one = repr(kinds_in(changed)) in known
                self.assertEqual(outcome(moves_from, program, changed)[0] == 'returns', is_one, changed)
                if not is_one:
                    self.assertEqual(outcome(moves_from, program, changed), unusable('stand'))

    def test_stands_of_wrong_size(self):
        for thing in (((0,), ((), ())), ((0, 0, 0), ((), ())), ((0, 0), ((),)), ((0, 0), ((), (), ())), ((0, 0),), ((0, 0), ((), ()), ()),
                      ((), ()), ((0, 3), ((), ())), ((0, 0), (('hi',), ())), ((0, 0), ((), ('ok',))), ((0, 0), ((), ('hi', 'ok'))),
                      ((0, 0), ((), ('hi', 'hi'))), ((True, 0), ((), ())), ((0, False), ((), ())), ((0, 0), ((), 'hi'))):
            self.assertEqual(outcome(moves_from, ASK, thing), unusable('stand'))
        for heads in ((('b', 'a'), ()), (('a', 'a'), ()), (('c',), ()), (('a', 'b', 'c'), ()), ((), ('a',)), ((('a',),), ())):
            self.assertEqual(outcome(moves_from, AB, ((0, 0), heads)), unusable('stand'))
        self.assertEqual(outcome(moves_from, TWO_CALLED, ((0, 0), (('hi',),))), unusable('stand'))
        self.assertEqual(outcome(moves_from, AB, ((3, 4), ((), ()))), returned(()))
        self.assertEqual(outcome(moves_from, AB, ((2, 0), ((), ()))), unusable('stand'))

    def test_by_name(self):
        self.assertEqual(moves_from(stand=((2, 2), ((), ())), program=ASK), ())
        self.assertEqual(watched_from(watched=LATER, program=BOTH), ())
        self.assertIs(is_crossing(watched=LATER, program=BOTH), True)


class WatchedTests(unittest.TestCase):
    def test_moves_of_all_watched_stands(self):
        random = Random(83)
        for program in SMALL + (ROUND, ROUND_CALLED, MIXED, MIXED_BAGS, MIXED_CALLS, MANY, AB):
            for watched in sample_of(standmodel.all_watched(program), random, 150):
                wanted = tuple(sorted(standmodel.watched_moves(program, watched)))
                self.assertEqual(outcome(watched_from, program, watched), returned(wanted), (program, watched))
                self.assertEqual(outcome(is_crossing, program, watched), returned(standmodel.crosses(program, watched)))

    def test_moves_in_other_programs(self):
        random = Random(89)
        for _ in range(60):
            program = model.random_program(random)
            for watched in sample_of(standmodel.all_watched(program), random, 40):
                wanted = tuple(sorted(standmodel.watched_moves(program, watched)))
                self.assertEqual(outcome(watched_from, program, watched), returned(wanted), (program, watched))
                self.assertEqual(outcome(is_crossing, program, watched), returned(standmodel.crosses(program, watched)))

    def test_a_put_by_which_a_name_comes_into_a_head_stands_in_two_pairs(self):
        put = (('ann', 0),)
        here = ((0, 0), ((), ()), ())
        self.assertEqual([later for move, later in watched_from(ASK, here) if move == put],
                         [((1, 0), ((), ('hi',)), ()), ((1, 0), ((), ('hi',)), ('out', 'hi', ('ann',)))])
        for heads, many in (((), 2), (('a',), 1), (('b',), 2), (('a', 'b'), 1)):
            pairs = [later for move, later in watched_from(AB, ((0, 0), (heads, ()), ())) if move == put]
            self.assertEqual(len(pairs), many)
        # On a queue where another letter lies nothing comes into the head; while one is watched none is watched anew.
        queue = (AB[0], (('q', 'ann', 'bob', 'queue'), AB[1][1]))
        self.assertEqual(len(watched_from(queue, ((0, 0), (('b',), ()), ()))), 2)
        self.assertEqual(len(watched_from(AB, ((0, 0), (('b',), ()), ('q', 'b', ('ann',))))), 2)

    def test_touched(self):
        program = ((('a', (), ((0, ('put', 'x', 'm'), 0),)), ('b', (), ((0, ('put', 'y', 'm'), 0), (0, ('take', 'x', 'm'), 0))),
                    ('c', (), ((0, ('take', 'y', 'm'), 0), (0, ('do', 'nap'), 0)))),
                   (('x', 'a', 'b', 'bag'), ('y', 'b', 'c', 'call')))
        for touched, wanted in ((('a',), ('a',)), (('a', 'b'), ('a', 'b', 'c')), (('a', 'c'), ('a', 'b', 'c')),
                                (('a', 'b', 'c'), ('a', 'b', 'c'))):
            pairs = dict(watched_from(program, ((0, 0, 0), (('m',), ()), ('x', 'm', touched))))
            self.assertEqual(pairs[(('b', 0), ('c', 0))][2], ('x', 'm', wanted))
            self.assertEqual(pairs[(('c', 1),)][2], ('x', 'm', touched))
            self.assertEqual(pairs[(('a', 0),)][2], ('x', 'm', touched))
            self.assertEqual(is_crossing(program, ((0, 0, 0), (('m',), ()), ('x', 'm', touched))), 'b' in touched)

    def test_crossing_needs_the_arrow_at_the_place(self):
        for place, crosses in ((0, False), (1, True), (2, False)):
            self.assertIs(is_crossing(BOTH, ((2, place), ((), ('hi',)), ('out', 'hi', ('ann', 'bob')))), crosses)
        self.assertIs(is_crossing(BOTH, ((2, 1), ((), ('hi',)), ())), False)
        self.assertIs(is_crossing(AB, ((0, 0), (('a', 'b'), ()), ('q', 'a', ('ann', 'bob')))), False)
        self.assertIs(is_crossing(AB, ((0, 0), (('a', 'b'), ()), ('q', 'b', ('ann', 'bob')))), True)

    def test_what_is_no_watched_stand(self):
        more = THINGS + (2, ('ann',), ('bob',), ('ann', 'bob'), ('bob', 'ann'), ('ann', 'ann'), 'out', 'back', 'q', 'r', 'a', 'b', ('a',),
                         ('q', 'b', ('ann',)), ('out', 'hi', ('ann',)))
        for program, watched in ((BOTH, WAITS), (BOTH, LATER), (AB, ((0, 1), (('a', 'b'), ()), ('q', 'b', ('ann', 'bob')))),
                                 (EMPTY, ((), (), ())), (ASK, ((0, 0), ((), ()), ()))):
            known = {repr(kinds_in(other)) for other in standmodel.all_watched(program)}
            for _, changed in mutants(watched, more):
                is_one = repr(kinds_in(changed)) in known
                for function in (watched_from, is_crossing):
                    self.assertEqual(outcome(function, program, changed)[0] == 'returns', is_one, changed)
                    if not is_one:
                        self.assertEqual(outcome(function, program, changed), unusable('watched'))

    def test_wrong_watches(self):
        stand = ((1, 0), ((), ('hi',)))
        for watch in (('out', 'hi', ()), ('out', 'hi', ('bob',)), ('out', 'hi', ('bob', 'ann')), ('out', 'hi', ('ann', 'ann')),
                      ('out', 'hi', ('ann', 'cid')), ('out', 'hi', ['ann']), ('out', 'hi', 'ann'), ('out', 'ok', ('ann',)),
                      ('back', 'hi', ('bob',)), ('back', 'ok', ('bob',)), ('in', 'hi', ('ann',)), ('out', 'hi'), ('out',),
                      ('out', 'hi', ('ann',), ()), (['out'], 'hi', ('ann',)), ('out', ['hi'], ('ann',)), ('out', 'hi', ('ann', ['bob'])),
                      None, [], False, 'out', ((),), {}):
            self.assertEqual(outcome(watched_from, BOTH, (*stand, watch)), unusable('watched'), watch)
            self.assertEqual(outcome(is_crossing, BOTH, (*stand, watch)), unusable('watched'), watch)
        for thing in (stand, (*stand, (), ()), list(WAITS), ((0, True), ((), ('hi',)), ()), ((1, 0), ((), ('ok',)), ())):
            self.assertEqual(outcome(watched_from, BOTH, thing), unusable('watched'))
            self.assertEqual(outcome(is_crossing, BOTH, thing), unusable('watched'))


class ConsequenceTests(unittest.TestCase):
    def test_moves_make_a_direct_run(self):
        random = Random(97)
        for program in PROGRAMS + (MANY, BAGS, CHOICE, AB) + tuple(model.random_program(random) for _ in range(30)):
            for _ in range(5):
                made, stand = (), first_stand(program)
                for _ in range(8):
                    pairs = moves_from(program, stand)
                    if pairs:
                        move, stand = random.choice(pairs)
                        made += move
                    self.assertTrue(is_run(program, made))
                    self.assertTrue(is_direct(program, made))
                    self.assertEqual(kinds_in(stand_after(program, made)), kinds_in(stand))

    def test_heads_and_touched_grow(self):
        random = Random(101)
        for program in PROGRAMS + (MANY, BAGS, CHOICE, AB) + tuple(model.random_program(random) for _ in range(20)):
            for _ in range(5):
                watched = (*first_stand(program), ())
                for _ in range(10):
                    pairs = watched_from(program, watched)
                    if pairs:
                        before, (_, watched) = watched, random.choice(pairs)
                        self.assertTrue(all(set(head) <= set(later) for head, later in zip(before[1], watched[1])))
                        self.assertTrue(before[2] == () or before[2][:2] == watched[2][:2])
                        self.assertTrue(before[2] == () or set(before[2][2]) <= set(watched[2][2]))
                        calls = [head for row, head in zip(program[1], watched[1]) if row[3] == 'call']
                        self.assertTrue(all(head == () for head in calls))

    def test_if_a_watched_stand_can_come_so_can_its_stand(self):
        random = Random(103)
        for program in SMALL + (ROUND, MANY) + tuple(model.random_program(random) for _ in range(15)):
            stands = self.closure(first_stand(program), lambda stand: moves_from(program, stand))
            watched = self.closure((*first_stand(program), ()), lambda thing: watched_from(program, thing))
            self.assertEqual({thing[:2] for thing in watched}, stands)
            self.assertEqual(stands, set(standmodel.stand_costs(program)))
            self.assertEqual(watched, set(standmodel.watched_costs(program)))

    def closure(self, first, following):
        found, waiting = {first}, [first]
        while waiting:
            new = {later for _, later in following(waiting.pop())} - found
            found |= new
            waiting.extend(new)
        return found


if __name__ == '__main__':
    unittest.main()
