"""[8], [9] (C7), [41], [42], [44]: the ring sets, the least sets that suffice, and the greatest that do not."""

import unittest
from itertools import permutations
from random import Random

from ascalls.judging import fewest_to_ring, is_as_calls
from ascalls.leastcalls import greatest_others, least_calls, needs_call, ring_sets, suffices
from ascalls.programchanges import with_calls
from tests import model, standmodel
from tests.samples import (ASK, ASK_CALLED, BARE, BOTH, BOTH_CALLED, EMPTY, MIXED, MIXED_BAGS, NEVER, PROGRAMS, ROUND, SOMETIMES, TWO,
                           outcome, returned, unusable, with_forms)
from tests.test_callpapers import LEFT
from tests.test_judging import FINITE, LOOP, PASS, THREE, fewest_by_runs, renamed
from tests.test_letters import MANY
from tests.test_runclasses import BAGS, CHOICE

THINGS = NEVER + SOMETIMES
MANY_PROGRAMS = PROGRAMS + (THREE, PASS, LOOP, MANY, LEFT, BAGS, CHOICE)
# Six channels, and rings that need letters on one, on two and on three of them; nobody takes a letter z.
SIX = (
    (('ann', (), ((0, ('put', 'a', 'm'), 1), (1, ('take', 'b', 'm'), 2),
                  (0, ('put', 'c', 'z'), 3), (3, ('put', 'd', 'x'), 4), (4, ('put', 'e', 'y'), 5),
                  (0, ('put', 'f', 'z'), 6), (6, ('put', 'e', 'z'), 7), (7, ('put', 'c', 'x'), 8), (8, ('put', 'd', 'y'), 9))),
     ('bob', (), ((0, ('put', 'b', 'm'), 1), (1, ('take', 'a', 'm'), 2),
                  (0, ('take', 'e', 'y'), 3), (3, ('take', 'd', 'x'), 4),
                  (0, ('take', 'd', 'y'), 6), (6, ('take', 'c', 'x'), 7)))),
    (('a', 'ann', 'bob', 'queue'), ('b', 'bob', 'ann', 'bag'), ('c', 'ann', 'bob', 'queue'), ('d', 'ann', 'bob', 'bag'),
     ('e', 'ann', 'bob', 'queue'), ('f', 'ann', 'bob', 'queue')),
)


def channels_of(program):
    """The names of the channels that are not calls."""
    return [row[0] for row in program[1] if row[3] != 'call']


def sets_that_suffice(program, judge):
    """All sets of channels that suffice, by trying each."""
    return [names for names in standmodel.subsets(channels_of(program)) if judge(with_calls(program, names))]


def least_of(sets):
    """Those that include no other one."""
    return tuple(sorted(names for names in sets if not any(set(other) < set(names) for other in sets)))


def greatest_of(sets):
    """Those that no other one includes."""
    return tuple(sorted(names for names in sets if not any(set(other) > set(names) for other in sets)))


def other_names(program, random):
    """A dict of other names for all names of the program, different ones for different ones, in any order."""
    words = {arrow[1][-1] for arrow in model.arrows_of(program).values()}
    names = {row[0] for row in program[0]}
    channels = {row[0] for row in program[1]}
    found = {}
    for rows, first in ((words, 'w'), (names, 'p'), (channels, 'c')):
        signs = random.sample('abcdefghijklm', len(rows))
        found.update({row: first + sign for row, sign in zip(sorted(rows), signs)})
    return found


def with_other_names(program, names):
    """The program with these other names, its rows in the order of the new names."""
    parties, channels = renamed(program, names)
    return (tuple(sorted(parties)), tuple(sorted(channels)))


class LeastTests(unittest.TestCase):
    def check(self, program, enough):
        """Compare with all the sets of channels that suffice."""
        rest = [names for names in standmodel.subsets(channels_of(program)) if names not in enough]
        least, others = least_of(enough), greatest_of(rest)
        self.assertEqual(outcome(least_calls, program), returned(least), program)
        self.assertEqual(outcome(greatest_others, program), returned(others), program)
        # The complements of the greatest that do not suffice are the least ring sets.
        rings = tuple(sorted(tuple(name for name in channels_of(program) if name not in names) for names in others))
        self.assertEqual(outcome(ring_sets, program), returned(rings), program)
        for names in standmodel.subsets(channels_of(program)):
            self.assertEqual(names in enough, all(set(names) & set(ring) for ring in rings))
            self.assertNotEqual(any(set(part) <= set(names) for part in least), any(set(part) >= set(names) for part in others))
        for row in program[1]:
            needed = row[3] != 'call' and all(row[0] in names for names in least)
            self.assertEqual(outcome(needs_call, program, row[0]), returned(needed))
            self.assertEqual(needed, (row[0],) in rings)

    def test_examples(self):
        told = [ring_sets(BOTH), least_calls(BOTH), greatest_others(BOTH)]
        self.assertEqual(told, [(('back',), ('out',)), (('back', 'out'),), (('back',), ('out',))])
        told = [ring_sets(THREE), least_calls(THREE), greatest_others(THREE)]
        self.assertEqual(told, [(('k', 'l'),), (('k',), ('l',)), (('m',),)])
        told = [suffices(ROUND, ('x',)), suffices(ROUND, ('y', 'z')), needs_call(BOTH, 'out'), needs_call(THREE, 'k'),
                needs_call(ASK, 'out')]
        self.assertEqual(told, [True, False, True, False, False])

    def test_programs_that_are_as_calls(self):
        for program in (EMPTY, BARE, ASK, ASK_CALLED, BOTH_CALLED, TWO):
            self.assertEqual(outcome(ring_sets, program), returned(()))
            self.assertEqual(outcome(least_calls, program), returned(((),)))
            self.assertEqual(outcome(greatest_others, program), returned(()))
        for program in MANY_PROGRAMS:
            called = with_forms(program, *['call'] * len(program[1]))
            self.assertEqual([ring_sets(called), least_calls(called), greatest_others(called)], [(), ((),), ()])

    def test_all_sets_of_channels_by_all_runs(self):
        for program in FINITE + (THREE, PASS, LEFT, BAGS) + standmodel.finite_programs(Random(157), 40):
            self.check(program, sets_that_suffice(program, lambda changed: fewest_by_runs(changed, 99) is None))

    def test_all_sets_of_channels(self):
        random = Random(163)
        programs = MANY_PROGRAMS + standmodel.finite_programs(random, 40) + tuple(model.random_program(random) for _ in range(60))
        for program in programs:
            self.check(program, sets_that_suffice(program, lambda changed: standmodel.fewest_to_cross(changed) is None))

    def test_up_to_six_channels(self):
        self.check(SIX, sets_that_suffice(SIX, is_as_calls))
        self.assertEqual(ring_sets(SIX), (('a',), ('b',), ('c', 'd'), ('c', 'e', 'f')))
        self.assertEqual(least_calls(SIX), (('a', 'b', 'c'), ('a', 'b', 'd', 'e'), ('a', 'b', 'd', 'f')))
        random = Random(167)
        for most in (4, 5, 6):
            for program in standmodel.finite_programs(random, 30, most):
                self.check(program, sets_that_suffice(program, is_as_calls))

    def test_ring_sets_by_watched_stands(self):
        random = Random(173)
        for program in MANY_PROGRAMS + standmodel.finite_programs(random, 30, 5):
            self.assertEqual(ring_sets(program), least_of(standmodel.ring_sets(program)))

    def test_suffices(self):
        random = Random(179)
        for program in MANY_PROGRAMS + tuple(model.random_program(random) for _ in range(20)):
            for names in standmodel.subsets(row[0] for row in program[1]):
                self.assertEqual(outcome(suffices, program, names), returned(is_as_calls(with_calls(program, names))))
        self.assertIs(suffices(names=('back', 'out'), program=BOTH), True)
        self.assertIs(suffices(BOTH, ()), False)
        self.assertIs(suffices(ASK_CALLED, ('out',)), True)

    def test_names(self):
        for names in THINGS + ('out', ['out'], ('out', 'back'), ('out', 'out'), ('back', 'back', 'out'), ('zed',), ('back', 'zed'),
                               ('back', None), ('ann',), (['out'],), ('back', ['out']), (('back',),), ('back', True)):
            if names != ():
                self.assertEqual(outcome(suffices, BOTH, names), unusable('names'), names)
        self.assertEqual(outcome(suffices, EMPTY, ('x',)), unusable('names'))

    def test_name(self):
        for program in (ASK, BOTH, ASK_CALLED, EMPTY):
            for name in THINGS + ('zed', 'ann', ['out'], ('out',), 'outs'):
                self.assertEqual(outcome(needs_call, program, name), unusable('name'), name)
        self.assertIs(needs_call(name='out', program=BOTH), True)
        self.assertIs(needs_call(ASK_CALLED, 'out'), False)
        self.assertIs(needs_call(with_forms(BOTH, 'queue', 'call'), 'back'), True)
        self.assertIs(needs_call(with_forms(BOTH, 'queue', 'call'), 'out'), False)


class ConsequenceTests(unittest.TestCase):
    def test_with_more_calls_the_fewest_events_get_no_less(self):
        random = Random(181)
        for program in MANY_PROGRAMS + (SIX,) + tuple(model.random_program(random) for _ in range(30)):
            sets = standmodel.subsets(channels_of(program))
            fewest = {names: fewest_to_ring(with_calls(program, names)) for names in sets}
            for names in sets:
                for more in sets:
                    if set(names) <= set(more) and fewest[more] is not None:
                        self.assertIsNotNone(fewest[names])
                        self.assertLessEqual(fewest[names], fewest[more])
                    self.assertTrue(fewest[names] is not None or not set(names) <= set(more) or fewest[more] is None)

    def test_queue_or_bag_does_not_matter_for_one_letter_name(self):
        random = Random(191)
        programs = [BOTH, ROUND, LOOP, THREE, SIX, TWO]
        programs += [self.with_one_letter(model.random_program(random)) for _ in range(60)]
        programs += [self.with_one_letter(program) for program in standmodel.finite_programs(random, 20, 4)]
        for program in programs:
            told = set()
            for form in ('queue', 'bag'):
                changed = with_forms(program, *[row[3] if row[3] == 'call' else form for row in program[1]])
                told.add((fewest_to_ring(changed), is_as_calls(changed), ring_sets(changed), least_calls(changed), greatest_others(changed)))
            self.assertEqual(len(told), 1, program)

    def with_one_letter(self, program):
        """The program in which only the letter a is put and taken."""
        parties = []
        for name, ends, arrows in program[0]:
            changed = [(start, doing if doing[0] == 'do' else (*doing[:2], 'a'), end) for start, doing, end in arrows]
            parties.append((name, ends, tuple(dict.fromkeys(changed))))
        return (tuple(parties), program[1])

    def test_other_names(self):
        random = Random(193)
        programs = MANY_PROGRAMS + (SIX,) + tuple(model.random_program(random) for _ in range(30))
        for program in programs + standmodel.finite_programs(random, 20):
            names = other_names(program, random)
            other = with_other_names(program, names)
            self.assertEqual(is_as_calls(other), is_as_calls(program))
            self.assertEqual(fewest_to_ring(other), fewest_to_ring(program))
            for function in (ring_sets, least_calls, greatest_others):
                wanted = tuple(sorted(tuple(sorted(renamed(part, names))) for part in function(program)))
                self.assertEqual(function(other), wanted)

    def test_the_order_of_arrows_does_not_matter(self):
        for arrows in permutations(LOOP[0][1][2]):
            other = ((LOOP[0][0], (*LOOP[0][1][:2], arrows)), LOOP[1])
            self.assertEqual(ring_sets(other), ring_sets(LOOP))
            self.assertEqual(fewest_to_ring(other), 4)
        self.assertEqual(ring_sets(MIXED_BAGS), least_of(standmodel.ring_sets(MIXED_BAGS)))
        self.assertEqual(ring_sets(MIXED), least_of(standmodel.ring_sets(MIXED)))


if __name__ == '__main__':
    unittest.main()
