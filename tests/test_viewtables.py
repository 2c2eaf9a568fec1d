"""[9] (C6), (C8), [10], [45], [54], [55]: view tables, and their checker."""

import unittest
from random import Random

from ascalls.errors import NotCalls
from ascalls.judging import is_as_calls
from ascalls.runs import lets_run
from ascalls.viewchecker import lets_rows
from ascalls.viewtables import view_rows
from tests import model, standmodel, viewmodel
from tests.samples import (ASK, ASK_CALLED, BARE, BOTH, BOTH_CALLED, EMPTY, MIXED_CALLS, NEVER, ROUND_CALLED, SOMETIMES, TWO, TWO_BAG,
                           TWO_CALLED, mutants, outcome, paper, returned, unusable)
from tests.test_growth import GROWING, HALF, ONCE, STREAM
from tests.test_standing import AS_CALLS, FINITE, LATE, MANY_PROGRAMS, programs_as_calls

THINGS = NEVER + SOMETIMES
GO, STAY, PUT = ('do', 'go'), ('do', 'stay'), ('put', 'x', 'a')
DOINGS = [GO, STAY, PUT, ('take', 'x', 'a')]


def chain(many):
    """The table of a way of so many rows with one doing each, but the last one."""
    return tuple(((GO, k + 1),) for k in range(many - 1)) + ((),)


def tail(many):
    """The program of one party that goes so many times, and of one without anything to do."""
    return ((('ann', (), tuple((k, GO, k + 1) for k in range(many))), ('bob', (), ())), ())


class TableTests(unittest.TestCase):
    def check(self, program, party, rows):
        self.assertEqual(outcome(view_rows, program, party), returned(rows), (program, party))
        self.assertEqual(outcome(lets_rows, rows), returned(len(rows)))

    def test_examples(self):
        told = [view_rows(ASK, 'ann'), view_rows(LATE, 'bob'), lets_rows(((),))]
        wanted = [(((('put', 'out', 'hi'), 1),), ((('take', 'back', 'ok'), 2),), ()), ((),), 1]
        self.assertEqual(told, wanted)
        self.assertEqual(outcome(lets_rows, (((GO, 1),), ((GO, 1),))), paper('alike', (0, 1)))

    def test_what_is_done_in_all_runs(self):
        """(C6): programs that have finitely many runs."""
        for program in FINITE + tuple(programs_as_calls(Random(307), 60)):
            for name, _, _ in program[0]:
                rows = view_rows(program, name)
                self.check(program, name, viewmodel.view_of(program, name))
                self.assertEqual(viewmodel.tuples_of(rows, len(rows) + 1), viewmodel.done_in_runs(program, name))

    def test_loops(self):
        """(C6): programs with loops; all runs of some length have what the table has."""
        random = Random(311)
        wide = tuple(standmodel.wide_program(random) for _ in range(80))
        for program in AS_CALLS + GROWING + tuple(model.random_program(random) for _ in range(120)) + wide:
            if not is_as_calls(program):
                continue
            for name, _, _ in program[0]:
                rows = view_rows(program, name)
                self.check(program, name, viewmodel.view_of(program, name))
                done = viewmodel.done_in_runs(program, name, 4)
                self.assertLessEqual(done, viewmodel.tuples_of(rows, 4))

    def test_short_tuples_of_a_table_are_done(self):
        for program in (STREAM, HALF, ONCE, MIXED_CALLS, ROUND_CALLED, ASK_CALLED, TWO_BAG):
            if is_as_calls(program):
                for name, _, _ in program[0]:
                    for doings in viewmodel.tuples_of(view_rows(program, name), 2):
                        self.assertIn(doings, viewmodel.done_in_runs(program, name, 7))

    def test_parties_that_do_nothing(self):
        self.check(BARE, 'a', ((),))
        self.check(BARE, 'abcdefgh', ((),))
        self.check(LATE, 'bob', ((),))
        self.check(tail(3), 'bob', ((),))
        self.assertEqual(outcome(view_rows, TWO_CALLED, 'ann'), returned((((('put', 'x', 'hi'), 1),), ((('put', 'x', 'hi'), 2),), ())))

    def test_long_tables(self):
        for many in (1, 2, 39, 40, 41):
            self.check(tail(many - 1), 'ann', chain(many))
        round_trip = ((('ann', (), tuple((k, GO if k else STAY, (k + 1) % 40) for k in range(40))), ('bob', (), ())), ())
        rows = view_rows(round_trip, 'ann')
        self.assertEqual((len(rows), lets_rows(rows)), (40, 40))
        self.assertEqual(rows[0], ((STAY, 1),))
        self.assertEqual(rows[39], ((GO, 0),))

    def test_equal_doings_that_lead_to_several_places(self):
        arrows = ((0, GO, 1), (0, GO, 2), (1, STAY, 0), (2, PUT[:1] + ('x', 'a'), 0), (2, GO, 3))
        program = ((('ann', (), arrows), ('bob', (), ())), (('x', 'ann', 'bob', 'queue'),))
        self.check(program, 'ann', viewmodel.view_of(program, 'ann'))
        self.check(program, 'ann', (((GO, 1),), ((GO, 2), (STAY, 0), (PUT, 0)), ()))
        # Both ways from place 0 go on alike, so that one row does for both.
        arrows = ((0, GO, 1), (0, GO, 2), (1, STAY, 1), (2, STAY, 2), (0, STAY, 1))
        self.check(((('ann', (), arrows),), ()), 'ann', (((GO, 1), (STAY, 1)), ((STAY, 1),)))

    def test_another_party_decides(self):
        # ann can take b or c, as bob put it before; what bob naps does not matter.
        for form in ('queue', 'call'):
            bob = ('bob', (), ((0, ('do', 'nap'), 0), (0, ('put', 'q', 'b'), 1), (0, ('put', 'q', 'c'), 1), (1, ('do', 'nap'), 0)))
            ann = ('ann', (), ((0, ('take', 'q', 'b'), 1), (1, ('take', 'q', 'c'), 0)))
            program = ((ann, bob), (('q', 'bob', 'ann', form),))
            self.check(program, 'ann', (((('take', 'q', 'b'), 1),), ((('take', 'q', 'c'), 0),)))

    def test_party(self):
        for program in (ASK, BOTH, EMPTY):
            for thing in THINGS + ('zed', 'out', ('ann',), ['ann']):
                if thing != 'ann' or program == EMPTY:
                    self.assertEqual(outcome(view_rows, program, thing), unusable('party'), thing)
        self.assertEqual(view_rows(party='ann', program=ASK), view_rows(ASK, 'ann'))

    def test_not_calls(self):
        programs = [program for program in MANY_PROGRAMS + standmodel.finite_programs(Random(313), 20) if not is_as_calls(program)]
        self.assertGreater(len(programs), 10)
        for program in programs:
            for name, _, _ in program[0]:
                with self.assertRaises(NotCalls) as told:
                    view_rows(program, name)
                made, ring = told.exception.run, told.exception.ring
                self.assertGreaterEqual(lets_run(program, made), 2)
                self.assertTrue(model.is_ring(standmodel.state_after(program, made), ring))


class CheckerTests(unittest.TestCase):
    def check(self, thing):
        wanted = viewmodel.verdict(thing)
        wanted = paper(*wanted) if isinstance(wanted, tuple) else returned(wanted)
        self.assertEqual(outcome(lets_rows, thing), wanted, thing)
        return wanted

    def test_shape(self):
        for thing in THINGS + ((), [], [()], ([],), (None,), ((None,),), (((),),), (((GO,),),), (((GO, 0, 0),),), (([GO, 0],),),
                               (((GO, True),),), (((GO, -1),),), (((GO, None),),), (((GO, '0'),),), ((((), 0),),), (((('do',), 0),),),
                               (((('go', 'do'), 0),),), (((['do', 'go'], 0),),), (((('do', 'Go'), 0),),), (((GO, 0),), None),
                               (((GO, 0),), [()]), ((GO, 0),), (GO, 0)):
            if thing not in (((),), ((), ())) or isinstance(thing, list):
                self.assertEqual(outcome(lets_rows, thing), paper('shape', -1), thing)
        self.assertEqual(lets_rows(thing=((),)), 1)

    def test_words(self):
        for rows, word, at in (
                (((), ()), 'met', 1), ((((GO, 0), (GO, 0)),), 'order', 0), ((((STAY, 0), (GO, 0)),), 'order', 0),
                ((((PUT, 0), (GO, 0)),), 'order', 0), ((((GO, 1),),), 'number', 0), ((((GO, 10 ** 59),),), 'number', 0),
                ((((GO, 0),), ()), 'met', 1), ((((GO, 2),), (), ()), 'met', 0), ((((GO, 1),), ((GO, 3),), (), ()), 'met', 1),
                ((((GO, 1), (STAY, 3)), (), (), ()), 'met', 0), ((((GO, 2), (STAY, 1)), (), ()), 'met', 0),
                ((((GO, 1),), (), ()), 'met', 2), ((((GO, 0),), (None,)), 'shape', -1), ((((GO, 0),), ((STAY, 0), (GO, 9))), 'order', 1),
                ((((GO, 1), (STAY, 9)), ()), 'number', 0), ((((GO, 1),), ((GO, 7), (STAY, 9)), ()), 'number', 1),
                ((((STAY, 5), (GO, 9)), ()), 'order', 0), ((((GO, 0),), ((GO, 9),)), 'number', 1),
                ((((GO, 1), (STAY, 2)), (), ()), 'alike', (1, 2)), ((((GO, 1),), ((GO, 0),)), 'alike', (0, 1)),
                ((((GO, 1), (STAY, 2)), ((PUT, 0),), ((PUT, 0),)), 'alike', (1, 2)),
                ((((GO, 1), (STAY, 2)), ((GO, 1), (STAY, 2)), ((GO, 1), (STAY, 2))), 'alike', (0, 1)),
                ((((GO, 1),), ((GO, 2), (STAY, 3)), ((PUT, 4),), ((PUT, 4),), ()), 'alike', (2, 3))):
            self.assertEqual(outcome(lets_rows, rows), paper(word, at), rows)
            self.check(rows)

    def test_the_least_pair_of_alike_rows(self):
        # Rows 2 and 5 are alike, and so are 3 and 4: the least pair is told.
        rows = (((GO, 1), (STAY, 2)), ((GO, 3), (STAY, 4), (PUT, 5)), ((PUT, 0),), ((GO, 3),), ((GO, 4),), ((PUT, 0),))
        self.assertEqual(outcome(lets_rows, rows), paper('alike', (2, 5)))
        self.check(rows)

    def test_rows_that_are_alike_only_far_behind(self):
        for many in (3, 39, 40, 41):
            self.assertEqual(outcome(lets_rows, chain(many)), returned(many))
        # Two ways of one length from row 0, that part at their ends alone, or not at all.
        length = 19
        ways = [((GO, 1), (STAY, 2))] + [((GO, k + 2),) for k in range(1, 2 * length - 1)]
        self.assertEqual(outcome(lets_rows, tuple(ways + [(), ()])), paper('alike', (1, 2)))
        self.assertEqual(outcome(lets_rows, tuple(ways + [(), ((PUT, 0),)])), returned(2 * length + 1))
        self.check(tuple(ways + [(), ()]))

    def test_tables_with_one_place_changed(self):
        things = THINGS + (2, 3, 40, GO, STAY, PUT, (GO, 0), (PUT, 1), ((GO, 0),), ((GO, 1), (STAY, 0)))
        for table in (((),), view_rows(ASK, 'ann'), view_rows(HALF, 'ann'), view_rows(STREAM, 'bob'), chain(3),
                      view_rows(MIXED_CALLS, 'ann') if is_as_calls(MIXED_CALLS) else view_rows(TWO, 'bob')):
            for _, changed in mutants(table, things):
                self.check(changed)

    def test_random_rows(self):
        random = Random(317)
        told = set()
        for _ in range(1500):
            rows = tuple(viewmodel.random_rows(random, 5, DOINGS))
            told.add(str(self.check(rows)[1])[2:20])
            self.check(viewmodel.least_of_rows(rows))
            numbers = list(rows)
            random.shuffle(numbers)
            self.check(tuple(numbers))
        self.assertGreater(len(told), 2)

    def test_accepted_tables_are_the_least_ones(self):
        random = Random(331)
        for _ in range(1500):
            rows = tuple(viewmodel.random_rows(random, 4, DOINGS[:2]))
            if outcome(lets_rows, rows)[0] == 'returns':
                self.assertEqual(viewmodel.least_of_rows(rows), rows)

    def test_both_programs(self):
        self.assertEqual(view_rows(BOTH_CALLED, 'ann'), ((),))
        self.assertEqual(view_rows(BOTH_CALLED, 'bob'), ((),))


if __name__ == '__main__':
    unittest.main()
