"""[45], [58] to [60]: two programs, and runs for doings."""

import unittest
from random import Random

from ascalls.errors import NotCalls
from ascalls.judging import is_as_calls
from ascalls.kinds import is_program
from ascalls.orders import doings_of
from ascalls.programchanges import with_arrow, with_calls
from ascalls.runs import is_run, lets_run
from ascalls.viewclasses import View
from ascalls.viewparting import are_alike_to, parting_doings, run_for
from ascalls.viewtables import view_rows
from tests import model, standmodel, viewmodel
from tests.samples import (ASK, ASK_CALLED, BARE, BOTH, EMPTY, NEVER, PROGRAMS, ROUND, ROUND_CALLED, SOMETIMES, TWO, TWO_BAG, TWO_CALLED,
                           kinds_in, mutants, outcome, returned, unusable, with_forms)
from tests.test_growth import GROWING, HALF, STREAM
from tests.test_standing import AS_CALLS, BAG, FINITE, LATE, MANY_PROGRAMS, programs_as_calls
from tests.test_viewtables import GO, STAY, tail

THINGS = NEVER + SOMETIMES
CALLS = with_calls(BOTH, ('back', 'out'))


def first_parting(program, other, party):
    """The least of the shortest tuples of doings in the runs of one of two programs with few runs alone."""
    done, others = (viewmodel.done_in_runs(part, party) for part in (program, other))
    return min(done ^ others, key=lambda doings: (len(doings), doings), default=None)


class PartingTests(unittest.TestCase):
    def check(self, program, other, party, doings):
        for pair in ((program, other), (other, program)):
            self.assertEqual(outcome(are_alike_to, *pair, party), returned(doings is None), (*pair, party))
            self.assertEqual(outcome(parting_doings, *pair, party), returned(doings), (*pair, party))
        view, view_of_other = View.made(program, party), View.made(other, party)
        if doings is not None:
            self.assertIs(doings in view, doings not in view_of_other)
            self.assertTrue(doings[:-1] in view and doings[:-1] in view_of_other)
        else:
            self.assertEqual(view, view_of_other)

    def test_examples(self):
        told = [are_alike_to(ASK, CALLS, 'ann'), parting_doings(ASK, CALLS, 'ann'), parting_doings(ASK, ASK, 'bob')]
        self.assertEqual(told, [False, (('put', 'out', 'hi'),), None])
        told = [run_for(ASK, 'bob', (('take', 'out', 'hi'),)), run_for(ASK, 'bob', (('put', 'back', 'ok'),))]
        self.assertEqual(told, [(('ann', 0), ('bob', 0)), None])

    def test_by_all_runs(self):
        programs = list(FINITE[2:]) + programs_as_calls(Random(401), 30)
        random = Random(409)
        told = []
        for program in programs:
            for other in [program] + random.sample(programs, 6):
                for party in {row[0] for row in program[0]} & {row[0] for row in other[0]}:
                    doings = first_parting(program, other, party)
                    self.check(program, other, party, doings)
                    told.append(len(doings or ()))
        self.assertTrue({0, 1, 2, 3} <= set(told))

    def test_programs_with_loops(self):
        random = Random(419)
        programs = [program for program in GROWING + AS_CALLS + tuple(model.random_program(random) for _ in range(60)) if is_as_calls(program)]
        for program in programs:
            for other in [program] + random.sample(programs, 5):
                for party in {row[0] for row in program[0]} & {row[0] for row in other[0]}:
                    few, others = (viewmodel.tuples_of(viewmodel.view_of(part, party), 4) for part in (program, other))
                    doings = parting_doings(program, other, party)
                    if few != others:
                        self.assertEqual(doings, min(few ^ others, key=lambda found: (len(found), found)))
                    else:
                        self.assertTrue(doings is None or len(doings) > 4)
                    self.check(program, other, party, doings)

    def test_the_least_of_the_shortest(self):
        def of(*arrows):
            return ((('ann', (), arrows),), ())
        a, b, c = (('do', word) for word in 'abc')
        # The shortest ones are told, although a longer one is less; of those of one length the least.
        one = of((0, a, 1), (0, b, 2), (1, a, 3), (3, a, 4), (2, a, 5), (2, b, 6))
        other = of((0, a, 1), (0, b, 2), (1, a, 3))
        self.check(one, other, 'ann', (b, a))
        other = of((0, a, 1), (0, b, 2), (1, a, 3), (1, b, 3), (2, a, 5), (2, c, 5), (3, a, 4))
        self.check(one, other, 'ann', (a, b))
        self.check(one, of((0, c, 0)), 'ann', (a,))
        self.check(of((0, ('do', 'z'), 0)), of((0, ('do', 'b'), 0)), 'ann', (('do', 'b'),))

    def test_far_behind(self):
        for many in (1, 2, 39, 40):
            self.check(tail(many), tail(many - 1), 'ann', (GO,) * many)
            self.check(tail(many), tail(many), 'ann', None)
        self.check(((('ann', (), ((0, GO, 0),)),), ()), tail(12), 'ann', (GO,) * 13)

    def test_other_programs_parties_and_channels(self):
        # Only the doings of the party count: not the names of others, nor places and ends.
        one = ((('ann', (), ((0, GO, 1), (1, STAY, 0))),), ())
        other = ((('ann', (7,), ((0, GO, 5), (5, STAY, 3), (3, GO, 5))), ('zed', (), ())), (('q', 'zed', 'ann', 'bag'),))
        self.check(one, other, 'ann', None)
        self.assertIs(are_alike_to(other=other, party='ann', program=one), True)
        self.assertIs(parting_doings(party='ann', program=one, other=other), None)

    def test_forms_do_matter(self):
        self.check(LATE, BAG, 'bob', (('take', 'q', 'new'),))
        self.check(TWO, TWO_BAG, 'bob', None)
        self.check(TWO, TWO_CALLED, 'ann', None)
        self.check(ASK, ASK_CALLED, 'ann', None)

    def test_errors_come_in_order(self):
        for function in (are_alike_to, parting_doings):
            for thing in [thing for thing in THINGS if thing != ((), ())] + [ASK[0], (ASK[0], ()), list(ASK), (ASK,), 'ann']:
                for party in ('ann', None, 'zed'):
                    for program in (ASK, BOTH):
                        self.assertEqual(outcome(function, program, thing, party), unusable('other'), thing)
            for thing in [thing for thing in THINGS if thing != 'ann'] + ['zed', ('ann',), ['ann'], 'out']:
                for program, other in ((ASK, ASK), (BOTH, ASK), (ASK, BOTH), (BOTH, BOTH)):
                    self.assertEqual(outcome(function, program, other, thing), unusable('party'), thing)
            for program, other, party in ((ASK, ROUND, 'cid'), (ROUND, ASK, 'cid'), (ASK, EMPTY, 'ann'), (EMPTY, ASK, 'ann'), (ASK, BARE, 'a')):
                self.assertEqual(outcome(function, program, other, party), unusable('party'))

    def test_other_with_one_place_changed(self):
        for _, changed in mutants(ASK, THINGS):
            told = outcome(are_alike_to, ASK, changed, 'ann')
            if not is_program(changed):
                self.assertEqual(told, unusable('other'))
            else:
                self.assertNotEqual(told, unusable('other'))

    def check_not_calls(self, program, function, *args):
        with self.assertRaises(NotCalls) as told:
            function(*args)
        made, ring = told.exception.run, told.exception.ring
        self.assertGreaterEqual(lets_run(program, made), 2)
        self.assertTrue(model.is_ring(standmodel.state_after(program, made), ring))

    def test_not_calls_for_the_program_and_then_for_the_other_one(self):
        shifted = ((BOTH[0][0], ('bob', (2,), ((0, ('do', 'nap'), 3), (3, ('put', 'back', 'ok'), 1), (1, ('take', 'out', 'hi'), 2)))), BOTH[1])
        for function in (are_alike_to, parting_doings):
            self.check_not_calls(BOTH, function, BOTH, ASK, 'ann')
            self.check_not_calls(BOTH, function, ASK, BOTH, 'ann')
            # A run of the one with a nap is no run of the other one, and the other way round.
            self.check_not_calls(BOTH, function, BOTH, shifted, 'ann')
            self.check_not_calls(shifted, function, shifted, BOTH, 'ann')


class RunTests(unittest.TestCase):
    def check(self, program, party, doings):
        told = outcome(run_for, program, party, doings)
        self.assertEqual(told[0], 'returns')
        made = run_for(program, party, doings)
        self.assertIs(made is None, doings not in View.made(program, party))
        if made is not None:
            self.assertIs(type(made), tuple)
            self.assertTrue(is_run(program, made))
            self.assertEqual(doings_of(program, made, party), doings)
        return made

    def test_all_doings_of_programs_with_few_runs(self):
        for program in FINITE + tuple(programs_as_calls(Random(421), 25)):
            for party, _, arrows in program[0]:
                done = viewmodel.done_in_runs(program, party)
                known = [arrow[1] for arrow in arrows] + [GO]
                tried = done | {doings + (doing,) for doings in done for doing in known} | {doings[1:] for doings in done}
                for doings in sorted(tried):
                    self.assertIs(self.check(program, party, doings) is not None, doings in done)

    def test_programs_with_loops(self):
        random = Random(431)
        for program in GROWING + AS_CALLS + tuple(model.random_program(random) for _ in range(40)):
            if is_as_calls(program):
                for party, _, _ in program[0]:
                    had = sorted(viewmodel.tuples_of(view_rows(program, party), 4))
                    for doings in random.sample(had, min(8, len(had))):
                        self.assertIsNot(self.check(program, party, doings), None)

    def test_long_doings(self):
        self.assertEqual(len(self.check(STREAM, 'ann', (('put', 'q', 'hi'),) * 120)), 120)
        self.assertEqual(len(self.check(STREAM, 'bob', (('take', 'q', 'hi'),) * 60)), 120)
        self.assertIs(self.check(tail(40), 'ann', (GO,) * 41), None)
        self.check(tail(40), 'ann', (GO,) * 40)

    def test_no_doings(self):
        for program in AS_CALLS:
            for party, _, _ in program[0]:
                self.check(program, party, ())

    def test_doings(self):
        put = ('put', 'out', 'hi')
        for program in (ASK, BOTH):
            for thing in [thing for thing in THINGS if thing != ()] + [[put], put, (list(put),), (put, None), (put, ()), ('put',), (('put', 'out'),),
                                                                       ((put,),), (put, ('do', 'Nap'))]:
                self.assertEqual(outcome(run_for, program, 'ann', thing), unusable('doings'), thing)
            for thing in [thing for thing in THINGS if thing != 'ann']:
                self.assertEqual(outcome(run_for, program, thing, None), unusable('party'), thing)
            for thing in ((), (put,), (GO,)):
                if program == BOTH:
                    with self.assertRaises(NotCalls):
                        run_for(program, 'ann', thing)
        # Doings that the program does not have at all are doings as well.
        self.assertIs(run_for(ASK, 'ann', (('take', 'zed', 'zed'),)), None)
        self.assertIs(run_for(doings=(put, put), program=ASK, party='ann'), None)

    def test_not_calls(self):
        for program in [program for program in MANY_PROGRAMS if not is_as_calls(program)]:
            for party, _, _ in program[0]:
                with self.assertRaises(NotCalls) as told:
                    run_for(program, party, ())
                self.assertGreaterEqual(lets_run(program, told.exception.run), 2)


class ConsequenceTests(unittest.TestCase):
    def test_another_word_of_another_party(self):
        """[60]: what a party can do does not change if another one has another word in a "do"."""
        for program in (HALF, ROUND_CALLED) + AS_CALLS:
            for party, _, _ in program[0]:
                for word in ('nap', 'jump'):
                    others = [row[0] for row in program[0] if row[0] != party]
                    one, other = program, program
                    for name in others:
                        one = with_arrow(one, name, (0, ('do', 'zedzed'), 0))
                        other = with_arrow(other, name, (0, ('do', 'z' + word), 0))
                    if is_as_calls(one):
                        self.assertIs(are_alike_to(one, other, party), True)

    def test_arguments_stay(self):
        before = [kinds_in(program) for program in PROGRAMS]
        for program in PROGRAMS:
            for party, _, _ in program[0]:
                outcome(are_alike_to, program, with_forms(program, *['call'] * len(program[1])), party)
        self.assertEqual([kinds_in(program) for program in PROGRAMS], before)


if __name__ == '__main__':
    unittest.main()
