"""[9] (C7), (C8), [43]: papers of the least sets and their checker."""

import unittest
from random import Random

from ascalls.callpapers import call_paper
from ascalls.errors import InvalidPaper
from ascalls.leastcalls import greatest_others, least_calls
from ascalls.leastchecker import lets_least
from ascalls.leastpapers import least_paper
from ascalls.programchanges import with_calls
from tests import model, standmodel
from tests.samples import (ASK, BOTH, BOTH_CALLED, EMPTY, NEVER, ROUND, SOMETIMES, kinds_in, mutants, outcome, paper, part_at,
                           replaced, returned, with_forms)
from tests.test_judging import LOOP, PASS, THREE
from tests.test_leastcalls import MANY_PROGRAMS, SIX, channels_of
from tests.test_letters import CROSS

THINGS = NEVER + SOMETIMES


def verdict(program, thing):
    """What the checker has to say by the model: how many sets, or the word and the place, with those of the cause."""
    if not isinstance(thing, tuple) or len(thing) != 2 or not all(isinstance(part, tuple) for part in thing):
        return ('shape', -1, None)
    if not all(isinstance(pair, tuple) and len(pair) == 2 for part in thing for pair in part):
        return ('shape', -1, None)
    known = standmodel.subsets(channels_of(program))
    for i, part in enumerate(thing):
        for k, (names, made) in enumerate(part):
            before = [pair[0] for pair in part[:k]]
            if repr(kinds_in(names)) not in [repr(kinds_in(other)) for other in known]:
                return ('set', (i, k), None)
            if any(names <= other or set(names) <= set(other) or set(names) >= set(other) for other in before):
                return ('set', (i, k), None)
            told = standmodel.verdict(with_calls(program, names), made)
            if not isinstance(told, bool):
                return ('paper', (i, k), told)
            if told != (i == 0):
                return ('paper', (i, k), None)
    for names in known:
        if not any(set(other) <= set(names) for other, _ in thing[0]) and not any(set(other) >= set(names) for other, _ in thing[1]):
            return ('left', names, None)
    return len(thing[0])


def result(program, thing):
    """What the checker says, in the form of a verdict."""
    try:
        return lets_least(program, thing)
    except InvalidPaper as error:
        cause = error.__cause__
        if cause is not None and type(cause) is not InvalidPaper:
            raise AssertionError('a cause of another kind') from error
        return (error.word, error.at, None if cause is None else (cause.word, cause.at))


class PaperTests(unittest.TestCase):
    def check(self, program):
        made = least_paper(program)
        self.assertEqual([type(made), type(made[0]), type(made[1]), len(made)], [tuple, tuple, tuple, 2])
        for part, sets, word in zip(made, (least_calls(program), greatest_others(program)), ('table', 'ring')):
            self.assertEqual(kinds_in(tuple(names for names, _ in part)), kinds_in(sets))
            self.assertEqual({type(pair) for pair in part} | {tuple}, {tuple})
            self.assertEqual([thing[0] for _, thing in part], [word] * len(sets))
            for names, thing in part:
                changed = with_calls(program, names)
                self.assertIs(standmodel.verdict(changed, thing), word == 'table')
        self.assertEqual(outcome(lets_least, program, made), returned(len(least_calls(program))))

    def test_papers(self):
        for program in MANY_PROGRAMS:
            self.check(program)

    def test_papers_of_other_programs(self):
        random = Random(197)
        for program in standmodel.finite_programs(random, 20) + tuple(model.random_program(random) for _ in range(20)):
            if len(standmodel.all_watched(program)) < 2000:
                self.check(program)

    def test_six_channels(self):
        made = least_paper(SIX)
        self.assertEqual(outcome(lets_least, SIX, made), returned(3))
        self.assertEqual([names for names, _ in made[0]], list(least_calls(SIX)))
        self.assertEqual([names for names, _ in made[1]], list(greatest_others(SIX)))
        self.assertEqual(outcome(lets_least, SIX, (made[0], made[1][1:])), paper('left', ('a', 'b', 'd')))
        self.assertEqual(outcome(lets_least, SIX, (made[0][1:], made[1])), paper('left', ('a', 'b', 'c')))

    def test_nothing(self):
        table = ('table', (((), (), ()),))
        self.assertEqual(outcome(least_paper, EMPTY), returned(((((), table),), ())))
        self.assertEqual(least_paper(program=EMPTY), ((((), table),), ()))
        self.assertEqual(outcome(lets_least, EMPTY, ((), ())), paper('left', ()))
        self.assertEqual(lets_least(thing=((((), table),), ()), program=EMPTY), 1)


class CheckerTests(unittest.TestCase):
    def check(self, program, thing):
        self.assertEqual(result(program, thing), verdict(program, thing), thing)

    def test_examples(self):
        self.assertEqual(lets_least(ROUND, least_paper(ROUND)), 1)
        self.assertEqual(outcome(lets_least, BOTH, (((('back',), ('table', ())),), ())), paper('paper', (0, 0)))
        self.assertEqual(outcome(lets_least, BOTH, ((), ())), paper('left', ()))

    def test_shape(self):
        whole = least_paper(BOTH)
        for thing in THINGS + (whole[:1], whole + ((),), list(whole), (list(whole[0]), whole[1]), (whole[0], list(whole[1])),
                               (None, ()), ((), None), ((None,), ()), ((), (None,)), ((('back',),), ()), (((),), ()), ((), ((),)),
                               (((('back',), None, None),), ()), (([('back',), None],), ()), ((), ((('back',), None), ())), ('ab', ())):
            if thing != ((), ()):
                self.assertEqual(result(BOTH, thing), ('shape', -1, None), thing)
                self.assertEqual(verdict(BOTH, thing), ('shape', -1, None))

    def test_papers_with_one_place_changed(self):
        more = THINGS + (2, ('back',), ('out',), ('back', 'out'), ('out', 'back'), 'table', 'ring')
        for program in (BOTH, PASS, EMPTY, ASK):
            whole = least_paper(program)
            random = Random(199)
            changes = [changed for path, changed in mutants(whole, more) if len(path) < 6]
            for changed in changes if len(changes) < 4000 else random.sample(changes, 4000):
                self.check(program, changed)

    def test_sets(self):
        ring, table = call_paper(BOTH), call_paper(BOTH_CALLED)
        both = (('back', 'out'), table)
        for names in (('back',), ('out',), ()):
            self.check(BOTH, ((both,), ((names, ring),)))
        first, second = (('back',), call_paper(with_calls(BOTH, ('back',)))), (('out',), call_paper(with_calls(BOTH, ('out',))))
        for others, wanted in (((first, second), 1), ((second, first), ('set', (1, 1), None)), ((first, first), ('set', (1, 1), None)),
                               ((first,), ('left', ('out',), None)), ((second,), ('left', ('back',), None)),
                               (((('back', 'zed'), ring),), ('set', (1, 0), None)), (((['back'], ring),), ('set', (1, 0), None)),
                               (((('out', 'back'), ring),), ('set', (1, 0), None)), ((('back', ring),), ('set', (1, 0), None)),
                               (((('back', 'back'), ring),), ('set', (1, 0), None)), ((((True,), ring),), ('set', (1, 0), None)),
                               (((((), ring)), first), ('set', (1, 1), None)), ((), ('left', (), None))):
            self.assertEqual(result(BOTH, ((both,), others)), wanted, others)
            self.assertEqual(verdict(BOTH, ((both,), others)), wanted)

    def test_sets_that_include_each_other(self):
        whole = least_paper(THREE)
        k, l = whole[0]
        kl = (('k', 'l'), call_paper(with_calls(THREE, ('k', 'l'))))
        lm = (('l', 'm'), call_paper(with_calls(THREE, ('l', 'm'))))
        km = (('k', 'm'), call_paper(with_calls(THREE, ('k', 'm'))))
        for least, wanted in (((k, l), 2), ((k, kl), ('set', (0, 1), None)), ((kl, l), ('set', (0, 1), None)),
                              ((km, l), 2), ((k, lm), 2), ((kl, km, lm), 3), ((kl, lm, km), ('set', (0, 2), None)),
                              ((l, k), ('set', (0, 1), None)), ((k, l, lm), ('set', (0, 2), None))):
            wanted = wanted if isinstance(wanted, tuple) else verdict(THREE, (least, whole[1]))
            self.assertEqual(result(THREE, (least, whole[1])), wanted)
        # What is not least is accepted only if nothing is left.
        self.assertEqual(result(THREE, ((km, l), whole[1])), ('left', ('k',), None))
        self.assertEqual(result(THREE, ((kl, km, lm), whole[1])), ('left', ('k',), None))

    def test_a_call_is_in_no_set(self):
        program = with_forms(BOTH, 'call', 'queue')
        whole = least_paper(program)
        self.assertEqual([names for names, _ in whole[0]], [('out',)])
        self.assertEqual([names for names, _ in whole[1]], [()])
        self.assertEqual(lets_least(program, whole), 1)
        for path in ((0, 0, 0), (1, 0, 0)):
            for names in (('back',), ('back', 'out')):
                changed = replaced(whole, path, names)
                self.assertEqual(part_at(changed, path), names)
                self.assertEqual(result(program, changed), ('set', path[:2], None))
        self.assertEqual(result(program, (whole[0], ())), ('left', (), None))

    def test_papers(self):
        whole = least_paper(BOTH)
        ring = whole[1][0][1]
        for at, thing, cause in (((0, 0), None, ('shape', -1)), ((1, 0), None, ('shape', -1)), ((1, 1), None, ('shape', -1)),
                                 ((0, 0), ('table', ()), ('first', -1)), ((0, 0), ('table', (None,)), ('stand', 0)),
                                 ((1, 1), ('table', ()), ('first', -1)), ((1, 0), ('ring', None, None), ('shape', -1)),
                                 ((1, 0), ('ring', CROSS[:1], None), ('ring', -1)), ((1, 1), ('ring', (None,), None), ('event', 0)),
                                 ((1, 0), ring[:2] + ((1, 1),), ('ring', -1))):
            changed = replaced(whole, at + (1,), thing)
            self.assertEqual(result(BOTH, changed), ('paper', at, cause))
            self.assertEqual(verdict(BOTH, changed), ('paper', at, cause))

    def test_papers_of_the_other_form_have_no_cause(self):
        called = call_paper(BOTH_CALLED)
        for program, thing, at in ((BOTH, (((('back',), call_paper(with_calls(BOTH, ('back',)))),), ()), (0, 0)),
                                   (BOTH, ((), ((('back', 'out'), called),)), (1, 0)),
                                   (ASK, ((), (((), call_paper(ASK)),)), (1, 0)), (LOOP, ((((), call_paper(LOOP)),), ()), (0, 0))):
            self.assertEqual(result(program, thing), ('paper', at, None))
            try:
                lets_least(program, thing)
            except InvalidPaper as error:
                self.assertIs(error.__cause__, None)
                self.assertIs(error.__context__, None)

    def test_the_first_entry_that_applies(self):
        whole = least_paper(BOTH)
        both, first, second = whole[0][0], whole[1][0], whole[1][1]
        for thing, wanted in ((((both, None), (None,)), ('shape', -1, None)),
                              (((both, (None, None)), ((None, None),)), ('set', (0, 1), None)),
                              (((both[:1] + (None,), (None, None)), ((None, None),)), ('paper', (0, 0), ('shape', -1))),
                              (((both,), (first, first[:1] + (None,))), ('set', (1, 1), None)),
                              (((both,), (first[:1] + (None,), first)), ('paper', (1, 0), ('shape', -1))),
                              (((both,), (second[:1] + (second[1],), (None, None))), ('set', (1, 1), None)),
                              (((both,), (second,)), ('left', ('back',), None))):
            self.assertEqual(result(BOTH, thing), wanted)
            self.assertEqual(verdict(BOTH, thing), wanted)

    def test_left(self):
        """The first set by size and then ascending, of those of which nothing is told."""
        random = Random(211)
        programs = (BOTH, ROUND, THREE, PASS, LOOP, SIX) + standmodel.finite_programs(random, 10, 4)
        for program in programs:
            least, others = least_paper(program)
            for _ in range(30):
                kept = (tuple(pair for pair in least if random.random() < 0.7), tuple(pair for pair in others if random.random() < 0.7))
                known = [names for names in standmodel.subsets(channels_of(program))
                         if not any(set(other) <= set(names) for other, _ in kept[0])
                         and not any(set(other) >= set(names) for other, _ in kept[1])]
                wanted = ('left', known[0], None) if known else len(kept[0])
                self.assertEqual(result(program, kept), wanted)

    def test_accepted_papers_are_true(self):
        """(C8): if all sets are told of, those named in an accepted paper include all least and all greatest ones."""
        random = Random(223)
        for program in (BOTH, ROUND, THREE, PASS, LOOP) + standmodel.finite_programs(random, 10, 4):
            sets = standmodel.subsets(channels_of(program))
            papers = {names: call_paper(with_calls(program, names)) for names in sets}
            for _ in range(40):
                thing = tuple(tuple((names, papers[names]) for names in sorted(random.sample(sets, random.randint(0, min(4, len(sets))))))
                              for _ in range(2))
                if isinstance(result(program, thing), int):
                    self.assertEqual(tuple(names for names, _ in thing[0]), least_calls(program))
                    self.assertEqual(tuple(names for names, _ in thing[1]), greatest_others(program))


if __name__ == '__main__':
    unittest.main()
