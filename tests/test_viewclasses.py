"""[2], [9] (C6), [45], [56], [57]: what a party can do as values."""

import unittest
from random import Random

from ascalls.errors import InvalidPaper, NotCalls, NotUsable
from ascalls.judging import is_as_calls
from ascalls.programchanges import with_calls
from ascalls.viewchecker import lets_rows
from ascalls.viewclasses import View
from ascalls.viewtables import view_rows
from tests import standmodel, viewmodel
from tests.samples import (ASK, BARE, BOTH, EMPTY, NEVER, ROUND_CALLED, SOMETIMES, TWO, kinds_in, mutants, outcome, returned, unusable)
from tests.test_growth import GROWING, HALF, STREAM
from tests.test_standing import AS_CALLS, LATE, programs_as_calls
from tests.test_viewtables import DOINGS, GO, PUT, STAY, chain

THINGS = NEVER + SOMETIMES
LENGTH = 5


def some_views(random, many, most=5):
    """Seeded views with up to so many rows, many of them with doings in common."""
    return [View(viewmodel.least_of_rows(viewmodel.random_rows(random, most, DOINGS))) for _ in range(many)]


def table_of_pairs(view, other, both):
    """The view table of what both have, or one at least, by plain pairs of rows; None for where one does not have it."""
    def after(rows, i):
        return {} if i is None else dict(rows[i])
    table = {}
    waiting = [(0, 0)]
    while waiting:
        i, j = waiting.pop()
        if (i, j) not in table:
            steps, others = after(view.rows, i), after(other.rows, j)
            doings = set(steps) & set(others) if both else set(steps) | set(others)
            table[(i, j)] = {doing: (steps.get(doing), others.get(doing)) for doing in doings}
            waiting.extend(table[(i, j)].values())
    return viewmodel.least(table, (0, 0))


def has_all(view, other):
    """Whether the first one has all that the other one has, by all tuples that are long enough to tell."""
    pairs = {(0, 0)}
    for _ in range(len(view.rows) * len(other.rows) + 1):
        for i, j in list(pairs):
            for doing, later in other.rows[j]:
                if doing not in dict(view.rows[i]):
                    return False
                pairs.add((dict(view.rows[i])[doing], later))
    return True


class ViewTests(unittest.TestCase):
    def test_examples(self):
        ann, bob = View.made(ASK, 'ann'), View.made(ASK, 'bob')
        told = [len(ann), (('put', 'out', 'hi'),) in ann, ann(()), (ann & bob) == View.nothing(), ann <= (ann | bob), len(ann | bob)]
        self.assertEqual(told, [3, True, (('put', 'out', 'hi'),), True, True, 4])
        self.assertEqual(ann.without('back').rows, (((('put', 'out', 'hi'), 1),), ()))

    def test_rows(self):
        for rows in (((),), chain(3), chain(40), view_rows(ASK, 'ann'), view_rows(HALF, 'bob')):
            view = View(rows)
            self.assertEqual(kinds_in(view.rows), kinds_in(rows))
            self.assertEqual(len(view), len(rows))
            self.assertEqual(outcome(len, view), returned(len(rows)))
        self.assertEqual(View(rows=((),)).rows, ((),))

    def test_errors_of_rows(self):
        for rows, word, at in ((None, 'shape', -1), ((), 'shape', -1), ([()], 'shape', -1), (((), ()), 'met', 1),
                               ((((GO, 0), (GO, 0)),), 'order', 0), ((((GO, 1),),), 'number', 0), ((((GO, 1),), ((GO, 0),)), 'alike', (0, 1))):
            with self.assertRaises(InvalidPaper) as told:
                View(rows)
            self.assertEqual((told.exception.word, told.exception.at), (word, at))
        for _, changed in mutants(view_rows(ASK, 'ann'), THINGS + (2, GO)):
            told = outcome(lets_rows, changed)
            self.assertEqual(outcome(lambda rows: View(rows).rows, changed), told if told[0] == 'raises' else returned(changed))

    def test_made(self):
        for program in AS_CALLS + GROWING:
            for name, _, _ in program[0]:
                self.assertEqual(View.made(program, name).rows, view_rows(program, name))
                self.assertIs(type(View.made(program, name)), View)
        self.assertEqual(View.made(party='ann', program=ASK).rows, view_rows(ASK, 'ann'))
        for thing in THINGS + ('zed',):
            if thing != 'ann':
                self.assertEqual(outcome(View.made, ASK, thing), unusable('party'))
        with self.assertRaises(NotCalls):
            View.made(BOTH, 'ann')

    def test_nothing(self):
        self.assertEqual(View.nothing().rows, ((),))
        self.assertEqual(View.nothing(), View.made(BARE, 'a'))
        self.assertIsNot(View.nothing(), View.nothing())
        self.assertIn((), View.nothing())
        self.assertEqual(View.nothing()(()), ())
        self.assertNotIn((GO,), View.nothing())

    def test_equal(self):
        views = some_views(Random(337), 60)
        for view in views:
            for other in views:
                self.assertIs(view == other, view.rows == other.rows)
                self.assertIs(view != other, view.rows != other.rows)
            for thing in THINGS + (view.rows, EMPTY, object()):
                self.assertIs(view == thing, False)
                self.assertIs(thing == view, False)

    def test_order(self):
        views = some_views(Random(347), 40, 3) + [View.nothing(), View.made(ASK, 'ann'), View.made(ASK, 'bob')]
        found = 0
        for view in views:
            for other in views:
                wanted = has_all(other, view)
                found += wanted and view != other
                self.assertIs(view <= other, wanted)
                self.assertIs(other >= view, wanted)
                few = viewmodel.tuples_of(view.rows, 3)
                if wanted:
                    self.assertLessEqual(few, viewmodel.tuples_of(other.rows, 3))
        self.assertGreater(found, 20)

    def test_meet_and_join(self):
        views = some_views(Random(349), 25) + [View.nothing(), View((((GO, 0), (STAY, 0)),))]
        for view in views:
            for other in views:
                both, either = view & other, view | other
                self.assertEqual(both.rows, table_of_pairs(view, other, True))
                self.assertEqual(either.rows, table_of_pairs(view, other, False))
                self.assertEqual({type(both), type(either)}, {View})
                for made in (both, either):
                    self.assertEqual(lets_rows(made.rows), len(made))

    def test_meet_and_join_by_tuples(self):
        for view in some_views(Random(353), 20, 3):
            for other in some_views(Random(359), 6, 3):
                few, others = (viewmodel.tuples_of(part.rows, LENGTH) for part in (view, other))
                self.assertEqual(viewmodel.tuples_of((view & other).rows, LENGTH), few & others)
                self.assertEqual(viewmodel.tuples_of((view | other).rows, LENGTH), few | others)

    def test_other(self):
        view = View.made(ASK, 'ann')
        for thing in THINGS + (view.rows, ASK, object()):
            for function in (lambda a, b: a <= b, lambda a, b: a >= b, lambda a, b: a & b, lambda a, b: a | b,
                             lambda a, b: b <= a, lambda a, b: b >= a):
                with self.assertRaises(NotUsable) as told:
                    function(view, thing)
                self.assertEqual((told.exception.word, told.exception.at), ('other', -1))

    def test_in_and_call(self):
        for view in some_views(Random(367), 30, 4) + [View.made(HALF, 'ann'), View(chain(40))]:
            had = viewmodel.tuples_of(view.rows, 4)
            for doings in sorted(had)[:150]:
                self.assertIs(doings in view, True)
                after = tuple(sorted({other[-1] for other in had if other[:-1] == doings and other != ()}))
                if len(doings) < 4:
                    self.assertEqual(kinds_in(view(doings)), kinds_in(after))
                for doing in DOINGS:
                    if len(doings) < 4:
                        self.assertIs(doings + (doing,) in view, doing in after)
                        if doing not in after:
                            self.check_not_had(view, doings + (doing,))

    def check_not_had(self, view, thing):
        self.assertIs(thing in view, False)
        with self.assertRaises(NotUsable) as told:
            view(thing)
        self.assertEqual((told.exception.word, told.exception.at), ('doings', -1))

    def test_values_that_a_view_does_not_have(self):
        view = View.made(ASK, 'ann')
        put = ('put', 'out', 'hi')
        for thing in [thing for thing in THINGS if thing != ()] + [[put], put, ((put),), (list(put),), [], (put, None), (put, ()), (put, put),
                                                                   (('put', 'out', True),), (('put', 'out'),), 'put', ((put,),), View.nothing()]:
            if kinds_in(thing) != kinds_in((put,)) and not isinstance(thing, View):
                self.check_not_had(view, thing)
        self.check_not_had(view, view)
        self.assertEqual(view(doings=()), (put,))
        self.assertEqual(view((put, ('take', 'back', 'ok'))), ())

    def test_long_tuples(self):
        view = View.made(STREAM, 'ann')
        self.assertIn((('put', 'q', 'hi'),) * 500, view)
        self.assertEqual(view((('put', 'q', 'hi'),) * 500), (('put', 'q', 'hi'),))
        self.assertNotIn((GO,) * 40, View(chain(40)))
        self.assertIn((GO,) * 39, View(chain(40)))

    def test_without(self):
        for view in some_views(Random(373), 40, 4):
            for name in ('x', 'y', 'go'):
                made = view.without(name)
                left = {tuple(doing for doing in doings if doing[0] == 'do' or doing[1] != name) for doings in viewmodel.tuples_of(view.rows, 7)}
                few = viewmodel.tuples_of(made.rows, 2)
                self.assertLessEqual({doings for doings in left if len(doings) <= 2}, few)
                self.assertLessEqual(few, {doings for doings in left if len(doings) <= 2} if len(view) < 3 else few)
                self.assertEqual(made.rows, self.without(view, name))
                if name != 'x':
                    self.assertEqual(made, view)

    def without(self, view, name):
        """The view table of what is left, by sets of rows."""
        def reached(numbers):
            found = set(numbers)
            for _ in view.rows:
                found |= {j for i in found for doing, j in view.rows[i] if doing[0] != 'do' and doing[1] == name}
            return frozenset(found)
        first = reached({0})
        table, waiting = {}, [first]
        while waiting:
            numbers = waiting.pop()
            if numbers not in table:
                after = {}
                for doing, j in [pair for i in numbers for pair in view.rows[i]]:
                    if doing[0] == 'do' or doing[1] != name:
                        after.setdefault(doing, set()).add(j)
                table[numbers] = {doing: reached(others) for doing, others in after.items()}
                waiting.extend(table[numbers].values())
        return viewmodel.least(table, first)

    def test_without_any_value(self):
        view = View.made(ASK, 'ann')
        for thing in THINGS:
            if thing in ('hi', 'ann', 'queue', 'put'):
                self.assertEqual(view.without(thing), view)
            else:
                self.assertEqual(outcome(view.without, thing), unusable('name'), thing)
        # The word of a do is no channel.
        row = View((((('do', 'x'), 0), (PUT, 0), (('take', 'x', 'a'), 0)),))
        self.assertEqual(row.without('x').rows, (((('do', 'x'), 0),),))
        self.assertEqual(view.without(name='out').without('back'), View.nothing())

    def test_a_view_never_changes(self):
        views = some_views(Random(379), 12)
        before = [kinds_in(view.rows) for view in views]
        for view in views:
            for other in views:
                _ = (view & other, view | other, view <= other, view >= other, view == other)
            _ = (view.without('x'), view(()), () in view, None in view, len(view))
            with self.assertRaises(NotUsable):
                view(None)
            with self.assertRaises(AttributeError):
                view.rows = ((),)
        self.assertEqual([kinds_in(view.rows) for view in views], before)
        view = views[0]
        view |= views[1]
        self.assertEqual([kinds_in(view.rows) for view in views], before)


class ConsequenceTests(unittest.TestCase):
    def test_equal_by_order(self):
        views = some_views(Random(383), 30, 3) + [View.nothing()]
        for a in views:
            self.assertTrue(View.nothing() <= a)
            for b in views:
                self.assertIs(a == b, a <= b <= a)
                self.assertIs(a <= b, (a & b) == a)
                self.assertIs(a <= b, (a | b) == b)

    def test_without_of_joined_and_met(self):
        views = some_views(Random(389), 25)
        for a in views:
            for b in views[:10]:
                self.assertEqual((a | b).without('x'), a.without('x') | b.without('x'))
                self.assertTrue((a & b).without('x') <= (a.without('x') & b.without('x')))

    def test_more_calls(self):
        for program in AS_CALLS + GROWING + tuple(programs_as_calls(Random(397), 15)) + (TWO, ROUND_CALLED, LATE):
            self.assertTrue(is_as_calls(program))
            for names in standmodel.subsets(row[0] for row in program[1])[:10]:
                for name, _, _ in program[0]:
                    self.assertTrue(View.made(with_calls(program, names), name) <= View.made(program, name))


if __name__ == '__main__':
    unittest.main()
