"""[9] (C4), [45] to [49]: the stands that can come in a program that is as calls, and what never happens in it."""

import unittest
from random import Random

from ascalls.errors import NotCalls
from ascalls.judging import is_as_calls
from ascalls.programchanges import with_calls
from ascalls.runs import is_run, lets_run, stand_after, steps_at
from ascalls.standing import left_stands, never_done, never_taken, newly_stuck, stands_of, stuck_stands, way_to
from ascalls.stands import first_stand, moves_from
from tests import model, standmodel
from tests.samples import (ASK, ASK_CALLED, BARE, BOTH, BOTH_CALLED, EMPTY, MIXED_CALLS, NEVER, PROGRAMS, ROUND, ROUND_CALLED,
                           SOMETIMES, TWO, TWO_BAG, TWO_CALLED, fields, kinds_in, mutants, outcome, returned, unusable, with_forms)
from tests.test_callpapers import LEFT
from tests.test_judging import LOOP, PASS, THREE
from tests.test_leastcalls import SIX
from tests.test_letters import MANY
from tests.test_runclasses import BAGS, CHOICE

THINGS = NEVER + SOMETIMES
LATE = ((('ann', (2,), ((0, ('put', 'q', 'old'), 1), (1, ('put', 'q', 'new'), 2))), ('bob', (1,), ((0, ('take', 'q', 'new'), 1),))),
        (('q', 'ann', 'bob', 'queue'),))
BAG = (LATE[0], (('q', 'ann', 'bob', 'bag'),))
MANY_PROGRAMS = PROGRAMS + (THREE, PASS, LOOP, MANY, LEFT, BAGS, CHOICE, SIX, LATE, BAG)
AS_CALLS = tuple(program for program in MANY_PROGRAMS if is_as_calls(program))
FINITE = (EMPTY, BARE, ASK, ROUND_CALLED, TWO, TWO_BAG, TWO_CALLED, ASK_CALLED, BOTH_CALLED, LATE, BAG, with_forms(LEFT, 'queue'),
          with_calls(THREE, ('k',)), with_calls(THREE, ('l',)), with_calls(SIX, ('a', 'b', 'c')))
FUNCTIONS = (stands_of, stuck_stands, left_stands, never_done, never_taken)


def programs_as_calls(random, many):
    """Seeded programs with few runs that are as calls."""
    return [program for program in standmodel.finite_programs(random, 2 * many) if standmodel.fewest_to_cross(program) is None]


def is_at_ends(program, stand):
    """Whether each party is at one of its ends."""
    return all(place in party[1] for place, party in zip(stand[0], program[0]))


class StandTests(unittest.TestCase):
    def test_examples(self):
        told = [stands_of(ASK)[:2], len(stands_of(ASK)), stuck_stands(ASK)]
        self.assertEqual(told, [(((0, 0), ((), ())), ((1, 0), ((), ('hi',)))), 5, ()])
        told = [stuck_stands(LATE), left_stands(LATE), never_done(LATE), never_taken(LATE)]
        self.assertEqual(told, [(((2, 0), (('old',),)),), (), (('bob', 0),), (('q', 'new'), ('q', 'old'))])
        told = [left_stands(BAG), never_taken(BAG), way_to(BAG, ((2, 1), (('old',),))), way_to(BAG, ((0, 1), ((),)))]
        self.assertEqual(told, [(((2, 1), (('old',),)),), (('q', 'old'),), (('ann', 0), ('ann', 1), ('bob', 0)), None])
        told = [newly_stuck(ROUND, ('x',)), newly_stuck(ASK, ('out',))]
        self.assertEqual(told, [(((0, 0, 0), ((), (), ())),), ()])

    def test_nothing(self):
        self.assertEqual(outcome(stands_of, EMPTY), returned((((), ()),)))
        for function in (stuck_stands, left_stands, never_done, never_taken):
            self.assertEqual(outcome(function, EMPTY), returned(()))
        self.assertEqual(outcome(way_to, EMPTY, ((), ())), returned(()))
        self.assertEqual(outcome(newly_stuck, EMPTY, ()), returned(()))
        self.assertEqual(outcome(stuck_stands, BARE), returned((((0, 0), ((),)),)))

    def test_by_all_runs(self):
        """(C4): the stands of the runs, and what happens in them."""
        for program in FINITE + tuple(programs_as_calls(Random(227), 60)):
            states = list(model.all_states(program, 99).values())
            stands = {}
            for state in states:
                stands.setdefault(model.stand_of(state), []).append(state)
            self.assertEqual(outcome(stands_of, program), returned(tuple(sorted(stands))))
            still = {stand for stand, rows in stands.items() if not any(state.steps() for state in rows)}
            stuck = tuple(sorted(stand for stand in still if not is_at_ends(program, stand)))
            left = tuple(sorted(stand for stand in still if is_at_ends(program, stand) and any(stand[1])))
            self.assertEqual(outcome(stuck_stands, program), returned(stuck))
            self.assertEqual(outcome(left_stands, program), returned(left))
            done = {event for state in states for event in state.events}
            self.assertEqual(outcome(never_done, program), returned(tuple(sorted(set(model.arrows_of(program)) - done))))
            doings = {model.arrows_of(program)[event][1] for event in done}
            put, taken = ({doing[1:] for doing in doings if doing[0] == word} for word in ('put', 'take'))
            self.assertEqual(outcome(never_taken, program), returned(tuple(sorted(put - taken))))
            for stand in standmodel.all_stands(program)[:200]:
                self.check_way(program, stand, min([len(state.events) for state in stands.get(stand, [])], default=None))
            for stand, rows in stands.items():
                self.check_way(program, stand, min(len(state.events) for state in rows))

    def check_way(self, program, stand, fewest):
        kind, told = outcome(way_to, program, stand)
        self.assertEqual(kind, 'returns')
        made = way_to(program, stand)
        if fewest is None:
            self.assertIs(made, None)
        else:
            self.assertEqual(told[0], 'tuple')
            self.assertTrue(is_run(program, made))
            self.assertEqual((len(made), stand_after(program, made)), (fewest, stand))

    def test_programs_with_loops(self):
        random = Random(229)
        programs = list(AS_CALLS) + [model.random_program(random) for _ in range(60)]
        for program in programs:
            if not is_as_calls(program):
                continue
            costs = standmodel.stand_costs(program)
            self.assertEqual(outcome(stands_of, program), returned(tuple(sorted(costs))))
            for stand in standmodel.all_stands(program)[:100] + list(costs):
                self.check_way(program, stand, costs.get(stand))
            for made in list(model.all_states(program, 4))[:100]:
                self.assertIn(stand_after(program, made), costs)
            done = {event for stand in costs for move in standmodel.moves(program, stand) for event in move}
            self.assertEqual(never_done(program), tuple(sorted(set(model.arrows_of(program)) - done)))

    def test_ends_and_letters_left(self):
        puts = ((0, ('put', 'q', 'a'), 1),)
        for form in ('queue', 'bag'):
            for ends, stuck, left in (((1,), (), (((1, 0), (('a',),)),)), ((), (((1, 0), (('a',),)),), ()), ((0,), (((1, 0), (('a',),)),), ())):
                program = ((('ann', ends, puts), ('bob', (0, 3), ())), (('q', 'ann', 'bob', form),))
                self.assertEqual((stuck_stands(program), left_stands(program)), (stuck, left))
                self.assertEqual(never_taken(program), (('q', 'a'),))
            program = ((('ann', (0,), ()), ('bob', (0,), ((0, ('take', 'q', 'a'), 1),))), (('q', 'ann', 'bob', form),))
            self.assertEqual((stuck_stands(program), left_stands(program), never_done(program)), ((), (), (('bob', 0),)))
            self.assertEqual(never_taken(program), ())
        called = ((('ann', (1,), puts), ('bob', (0,), ())), (('q', 'ann', 'bob', 'call'),))
        self.assertEqual((stuck_stands(called), left_stands(called)), ((((0, 0), ((),)),), ()))
        self.assertEqual((never_done(called), never_taken(called)), ((('ann', 0),), ()))

    def test_a_letter_that_can_be_taken_is_a_step(self):
        program = ((('ann', (1,), ((0, ('put', 'q', 'a'), 1),)), ('bob', (0,), ((0, ('take', 'q', 'a'), 0),))), (('q', 'ann', 'bob', 'bag'),))
        self.assertIn(((1, 0), (('a',),)), stands_of(program))
        self.assertEqual(moves_from(program, ((1, 0), (('a',),))), ())
        self.assertEqual((stuck_stands(program), left_stands(program), never_taken(program)), ((), (), ()))

    def test_by_name(self):
        self.assertEqual(stands_of(program=EMPTY), (((), ()),))
        self.assertEqual(way_to(stand=((1, 0), ((), ('hi',))), program=ASK), (('ann', 0),))
        self.assertEqual(newly_stuck(names=('x',), program=ROUND), newly_stuck(ROUND, ('x',)))


class NewlyStuckTests(unittest.TestCase):
    def test_all_sets(self):
        for program in MANY_PROGRAMS + tuple(standmodel.finite_programs(Random(233), 40)):
            for names in standmodel.subsets(row[0] for row in program[1]):
                changed = with_calls(program, names)
                if is_as_calls(changed):
                    wanted = tuple(stand for stand in stuck_stands(changed) if self.has_step(program, stand))
                    self.assertEqual(outcome(newly_stuck, program, names), returned(wanted))
                else:
                    with self.assertRaises(NotCalls):
                        newly_stuck(program, names)

    def has_step(self, program, stand):
        """Whether a step is possible, by the words of [6]."""
        forms = {row[0]: row[3] for row in program[1]}
        heads = {row[0]: head for row, head in zip(program[1], stand[1])}
        places = {party[0]: place for party, place in zip(program[0], stand[0])}
        for move in standmodel.moves(program, stand):
            if len(move) == 1 or forms[model.arrows_of(program)[move[0]][1][1]] == 'call':
                return True
        doings = [arrow[1] for event, arrow in model.arrows_of(program).items() if arrow[0] == places[event[0]]]
        return any(doing[0] == 'take' and doing[2] in heads[doing[1]] for doing in doings)

    def test_a_program_that_is_not_as_calls(self):
        self.assertIs(is_as_calls(BOTH), False)
        self.assertEqual(newly_stuck(BOTH, ('back', 'out')), (((0, 0), ((), ())),))
        self.assertEqual(newly_stuck(BOTH_CALLED, ()), ())
        self.assertEqual(newly_stuck(ASK_CALLED, ('back', 'out')), ())

    def test_names(self):
        for program in (ASK, BOTH, ROUND):
            for names in THINGS + ('out', ['out'], ('x', 'w'), ('z', 'x'), ('out', 'back'), ('out', 'out'), ('zed',), (['x'],), ('ann',)):
                if names != ():
                    self.assertEqual(outcome(newly_stuck, program, names), unusable('names'), names)


class NotCallsTests(unittest.TestCase):
    def check(self, program, function, *args):
        """NotCalls, with a run of this program, and a ring of this run."""
        with self.assertRaises(NotCalls) as told:
            function(*args)
        made, ring = told.exception.run, told.exception.ring
        self.assertEqual(sorted(fields(told.exception)[1]), ['ring', 'run'])
        self.assertEqual({type(made), type(ring)}, {tuple})
        self.assertGreaterEqual(lets_run(program, made), 2)
        self.assertTrue(model.is_ring(standmodel.state_after(program, made), ring))

    def test_all_functions(self):
        programs = [program for program in MANY_PROGRAMS if not is_as_calls(program)]
        programs += [program for program in standmodel.finite_programs(Random(239), 20) if not is_as_calls(program)]
        self.assertGreater(len(programs), 10)
        for program in programs:
            for function in FUNCTIONS:
                self.check(program, function, program)
            self.check(program, way_to, program, first_stand(program))
            self.check(program, newly_stuck, program, ())

    def test_newly_stuck_tells_a_run_of_the_changed_program(self):
        for program, names in ((ROUND, ('y',)), (ROUND, ('y', 'z')), (BOTH, ('out',)), (THREE, ('m',)), (SIX, ('a', 'b'))):
            self.check(with_calls(program, names), newly_stuck, program, names)

    def test_not_usable_comes_first(self):
        self.assertEqual(outcome(way_to, BOTH, None), unusable('stand'))
        self.assertEqual(outcome(way_to, BOTH, ((0, 0), ((), ('ok',)))), unusable('stand'))
        self.assertEqual(outcome(newly_stuck, BOTH, None), unusable('names'))
        self.assertEqual(outcome(newly_stuck, BOTH, ('out', 'back')), unusable('names'))

    def test_what_is_no_stand(self):
        for program, stand in ((ASK, ((1, 0), ((), ('hi',)))), (BAG, ((2, 1), (('old',),))), (BOTH, ((1, 0), ((), ('hi',))))):
            known = {repr(kinds_in(other)) for other in standmodel.all_stands(program)}
            for _, changed in mutants(stand, THINGS + (2, ('new',), ('old',), ('new', 'old'), ('old', 'new'), 'ok', ('ok',))):
                if repr(kinds_in(changed)) not in known:
                    self.assertEqual(outcome(way_to, program, changed), unusable('stand'), changed)
                elif program != BOTH:
                    self.assertEqual(outcome(way_to, program, changed)[0], 'returns')


class ConsequenceTests(unittest.TestCase):
    def test_more_calls(self):
        """[49]: no stand comes that could not come before; what is stuck then was stuck before, or is newly stuck."""
        for program in AS_CALLS + tuple(programs_as_calls(Random(241), 30)):
            stands, stuck = set(stands_of(program)), set(stuck_stands(program))
            for names in standmodel.subsets(row[0] for row in program[1]):
                changed = with_calls(program, names)
                self.assertTrue(is_as_calls(changed))
                self.assertLessEqual(set(stands_of(changed)), stands)
                self.assertLessEqual(set(stuck_stands(changed)), stuck | set(newly_stuck(program, names)))
            called = with_forms(program, *['call'] * len(program[1]))
            self.assertEqual((left_stands(called), never_taken(called)), ((), ()))

    def test_way_to_is_none_for_all_other_stands(self):
        for program in (ASK, TWO, TWO_BAG, LATE, BAG, ASK_CALLED, MIXED_CALLS):
            if is_as_calls(program):
                stands = stands_of(program)
                for stand in standmodel.all_stands(program):
                    self.assertEqual(way_to(program, stand) is None, stand not in stands)

    def test_steps_at_a_stand(self):
        for program in AS_CALLS:
            for stand in stands_of(program)[:60]:
                self.assertEqual(steps_at(program, stand), next_steps_of(program, stand))


def next_steps_of(program, stand):
    """The steps after a run with this stand."""
    return tuple(standmodel.state_after(program, way_to(program, stand)).steps())


if __name__ == '__main__':
    unittest.main()
