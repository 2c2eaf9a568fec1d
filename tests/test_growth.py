"""[2], [9] (C5), (C8), [45], [50] to [53]: how many letters can lie at once, and papers that state it."""

import copy
import inspect
import unittest
from random import Random

from ascalls.errors import NotCalls
from ascalls.growth import growth_paper, most_lying
from ascalls.growthchecker import lets_growth
from ascalls.judging import is_as_calls
from ascalls.programchanges import with_calls
from ascalls.runs import contents_of, is_run, lets_run
from ascalls.viewtables import view_rows
from tests import growthmodel, model, standmodel
from tests.samples import (ASK, ASK_CALLED, BARE, BOTH, BOTH_CALLED, CHANNELS, EMPTY, MIXED, MIXED_BAGS, NEVER, ROUND, ROUND_CALLED,
                           SOMETIMES, TWO, TWO_BAG, TWO_CALLED, kinds_in, mutants, outcome, paper, replaced, returned, unusable,
                           with_forms)
from tests.test_letters import CROSS
from tests.test_standing import AS_CALLS, BAG, FINITE, LATE, MANY_PROGRAMS, programs_as_calls

THINGS = NEVER + SOMETIMES
HEIGHTS = ((((0, 0), ((),)), 0), (((1, 0), (('old',),)), 1), (((2, 0), (('old',),)), 2))
WAY = (('ann', 0), ('ann', 1))
STREAM = ((('ann', (0,), ((0, ('put', 'q', 'hi'), 0),)), ('bob', (0,), ((0, ('take', 'q', 'hi'), 0),))), LATE[1])
# No bound on q, one letter at the most on r; bob can also be without any of it, on a call.
HALF = ((('ann', (0,), ((0, ('put', 'q', 'a'), 1), (1, ('do', 'nap'), 0), (1, ('put', 'c', 'a'), 1))),
         ('bob', (), ((0, ('take', 'c', 'a'), 1), (1, ('put', 'r', 'b'), 2), (2, ('do', 'nap'), 0)))),
        (('c', 'ann', 'bob', 'call'), ('q', 'ann', 'bob', 'bag'), ('r', 'bob', 'ann', 'queue')))
ONCE = ((HALF[0][0], ('bob', (), ((0, ('take', 'c', 'a'), 1), (1, ('put', 'r', 'b'), 2), (2, ('put', 'r', 'b'), 3)))), HALF[1])
GROWING = (STREAM, HALF, ONCE, with_forms(STREAM, 'bag'))


def alone(stand):
    """Heights of this stand alone."""
    return ((stand, 0),)


def channels_that_count(program):
    """None, and the names of the channels that are not calls."""
    return [None] + [row[0] for row in program[1] if row[3] != 'call']


def most_by_runs(program, only, most=99):
    """The most letters that count and lie after a run of so many events at most."""
    return max(growthmodel.lying(state, only) for state in model.all_states(program, most).values())


class MostTests(unittest.TestCase):
    def check(self, program, only, most):
        self.assertEqual(outcome(most_lying, program, only=only), returned(most), (program, only))
        made = growth_paper(program, only=only)
        before = copy.deepcopy(made)
        self.assertEqual(made[0], 'endless' if most is None else 'most')
        self.assertEqual(outcome(lets_growth, program, made, only=only), returned(most))
        self.assertEqual(growthmodel.verdict(program, made, only), most)
        self.assertEqual(kinds_in(made), kinds_in(before))
        self.assertTrue(all(type(part) is tuple for part in made[2:]))

    def test_examples(self):
        told = [most_lying(LATE), lets_growth(LATE, ('most', 2, HEIGHTS, WAY)), most_lying(ASK, only='out'), most_lying(STREAM)]
        self.assertEqual(told, [2, 2, 1, None])
        told = [lets_growth(STREAM, ('endless', (('ann', 0),), ((('ann', 0),),))), lets_growth(STREAM, growth_paper(STREAM))]
        self.assertEqual(told, [None, None])
        self.assertEqual(outcome(lets_growth, STREAM, ('endless', (), ((('ann', 0),),))), paper('back', -1))

    def test_nothing_and_calls_alone(self):
        for program in (EMPTY, BARE, TWO_CALLED, BOTH_CALLED):
            self.check(program, None, 0)
        for program in MANY_PROGRAMS:
            self.check(with_forms(program, *['call'] * len(program[1])), None, 0)
        self.check(BARE, 'q', 0)

    def test_by_all_runs(self):
        """(C5): exact for programs that have finitely many runs."""
        for program in FINITE + tuple(programs_as_calls(Random(251), 60)):
            for only in channels_that_count(program):
                self.check(program, only, most_by_runs(program, only))

    def test_loops(self):
        """(C5): exact, or no bound, for programs with loops; runs alone tell least numbers."""
        random = Random(257)
        told = []
        wide = tuple(standmodel.wide_program(random) for _ in range(120))
        for program in GROWING + AS_CALLS + tuple(model.random_program(random) for _ in range(150)) + wide:
            if is_as_calls(program):
                for only in channels_that_count(program):
                    most = most_lying(program, only=only)
                    self.check(program, only, most)
                    least = most_by_runs(program, only, 4 if len(program[0]) > 2 else 5)
                    self.assertTrue(most is None or least <= most)
                    told.append(most)
        self.assertTrue({None, 0, 1, 2} <= set(told))

    def test_a_bound_on_one_channel_alone(self):
        for program, bounds in ((HALF, (None, None, None)), (ONCE, (None, None, 2))):
            self.assertIs(is_as_calls(program), True)
            for only, most in zip((None, 'q', 'r'), bounds, strict=True):
                self.check(program, only, most)

    def test_no_bound_is_told_by_a_way_round_that_can_be_repeated(self):
        for program in GROWING:
            for only in channels_that_count(program):
                _, run, steps = growth_paper(program, only=only) if most_lying(program, only=only) is None else (0, 0, 0)
                if run != 0:
                    turn = tuple(event for step in steps for event in step)
                    counts = [growthmodel.lying(standmodel.state_after(program, run + turn * k), only) for k in range(5)]
                    self.assertEqual(counts, sorted(set(counts)))
                    self.assertTrue(is_run(program, run + turn * 4))

    def test_a_long_chain(self):
        arrows = tuple((k, ('put', 'q', 'a'), k + 1) for k in range(60)) + ((60, ('do', 'nap'), 60),)
        program = ((('ann', (), arrows), ('bob', (), ())), (('q', 'ann', 'bob', 'queue'),))
        self.check(program, None, 60)
        self.check(((('ann', (), arrows + ((60, ('do', 'on'), 59),)), program[0][1]), program[1]), 'q', None)

    def test_long_ways_round(self):
        for many in (2, 3, 4, 5, 6, 40):
            for put in range(many):
                arrows = [(k, ('do', 'nap'), (k + 1) % many) for k in range(many)]
                still = ((('ann', (), (*arrows, (put, ('put', 'q', 'a'), many))), ('bob', (), ())), (('q', 'ann', 'bob', 'queue'),))
                self.check(still, None, 1)
                arrows[put] = (put, ('put', 'q', 'a'), (put + 1) % many)
                self.check(((('ann', (), tuple(arrows)), ('bob', (), ())), still[1]), None, None)
                # Two ways round, one behind the other, of which the second one alone grows.
                first = [(k, ('do', 'hop'), (k + 1) % many) for k in range(many)]
                second = tuple((start + many, doing, end + many) for start, doing, end in arrows)
                both = (*first, (put, ('put', 'q', 'b'), many), *second)
                self.check(((('ann', (), both), ('bob', (), ())), still[1]), None, None)

    def test_a_do_whose_word_is_a_channel_does_not_grow(self):
        program = ((('ann', (), ((0, ('do', 'q'), 0), (0, ('put', 'q', 'q'), 1), (1, ('do', 'q'), 1))), ('bob', (), ())),
                   (('q', 'ann', 'bob', 'bag'),))
        for only in (None, 'q'):
            self.check(program, only, 1)
            thing = ('endless', (), ((('ann', 0),),))
            self.assertEqual(outcome(lets_growth, program, thing, only=only), paper('grows', -1))

    def test_ways_of_other_heights_to_one_stand(self):
        # The short way puts one letter, the long one three; both lead to the same stand.
        arrows = ((0, ('put', 'q', 'a'), 3), (0, ('put', 'q', 'a'), 1), (1, ('put', 'q', 'a'), 2), (2, ('put', 'q', 'a'), 3),
                  (3, ('do', 'nap'), 4), (4, ('do', 'nap'), 3), (4, ('put', 'q', 'a'), 5))
        program = ((('ann', (), arrows), ('bob', (), ())), (('q', 'ann', 'bob', 'bag'),))
        for forms in ('queue', 'bag'):
            self.check(with_forms(program, forms), None, 4)
            self.assertEqual(len(growth_paper(program)[3]), 5)

    def test_only(self):
        for function in (most_lying, growth_paper):
            for program in (ASK_CALLED, ASK, BOTH):
                for thing in [thing for thing in THINGS if thing is not None] + ['zed', 'ann', ('back',), ['back'], CHANNELS[0]]:
                    self.assertEqual(outcome(function, program, only=thing), unusable('only'), thing)
            self.assertEqual(outcome(function, ASK_CALLED, only='out'), unusable('only'))
            self.assertEqual(list(inspect.signature(function).parameters), ['program', 'only'])
            with self.assertRaises(TypeError):
                function(ASK, 'out')
        self.assertEqual(most_lying(only='out', program=ASK), 1)

    def test_not_calls(self):
        random = Random(263)
        programs = [program for program in MANY_PROGRAMS + standmodel.finite_programs(random, 20) if not is_as_calls(program)]
        self.assertGreater(len(programs), 10)
        for program in programs:
            for function in (most_lying, growth_paper):
                for only in channels_that_count(program):
                    with self.assertRaises(NotCalls) as told:
                        function(program, only=only)
                    made, ring = told.exception.run, told.exception.ring
                    self.assertGreaterEqual(lets_run(program, made), 2)
                    self.assertTrue(model.is_ring(standmodel.state_after(program, made), ring))


class CheckerTests(unittest.TestCase):
    def check(self, program, thing, only=None):
        wanted = growthmodel.verdict(program, thing, only)
        wanted = paper(*wanted[1:]) if isinstance(wanted, tuple) else returned(wanted)
        self.assertEqual(outcome(lets_growth, program, thing, only=only), wanted, thing)
        return wanted

    def test_shape(self):
        for program in (EMPTY, LATE, BOTH):
            for thing in THINGS + (
                    ('most',), ('most', 0, ()), ('most', 0, (), (), ()), ('most', True, (), ()), ('most', -1, (), ()), ('most', None, (), ()),
                    ('most', '0', (), ()), ('most', 0, [], ()), ('most', 0, (None,), ()), ('most', 0, ((),), ()), ('most', 0, ((0,),), ()),
                    ('most', 0, ((0, 0, 0),), ()), ('most', 0, ([0, 0],), ()), ('most', 0, ((0, True),), ()), ('most', 0, ((0, -1),), ()),
                    ('most', 0, HEIGHTS + ((0, None),), ()), ['most', 0, (), ()], ('endless',), ('endless', ()), ('endless', (), [], ()),
                    ('endless', (), []), ('endless', (), None), ('endless', (), 'ab'), ('endless', (), (), ()), ['endless', (), ()],
                    ('Most', 0, (), ()), ('endles', (), ()), (('most',), 0, (), ()), (None, 0, (), ()), ('most', (), ()), ('endless', 0, (), ())):
                self.assertEqual(outcome(lets_growth, program, thing), paper('shape', -1), thing)
        self.assertEqual(lets_growth(thing=('most', 2, HEIGHTS, WAY), program=LATE, only='q'), 2)
        with self.assertRaises(TypeError):
            lets_growth(LATE, ('most', 2, HEIGHTS, WAY), None)

    def test_only(self):
        for thing in (None, (), ('most', 2, HEIGHTS, WAY), ('endless', (), ())):
            for only in [part for part in THINGS if part is not None] + ['zed', 'ann', ['q']]:
                self.assertEqual(outcome(lets_growth, LATE, thing, only=only), unusable('only'))
            self.assertEqual(outcome(lets_growth, with_forms(LATE, 'call'), thing, only='q'), unusable('only'))

    def test_words_of_most(self):
        first, second, third = HEIGHTS
        for heights, most, run, word, at in (
                ((), 0, (), 'first', -1), ((second,), 2, None, 'first', -1), ((first, (None, 0)), 2, None, 'stand', 1),
                (HEIGHTS + ((first[0], 0),), 2, None, 'stand', 3), ((first, first, (None, 0)), 2, None, 'stand', 1),
                (alone(((0, 0), (('new', 'old'),))), 2, None, 'stand', 0), (alone(((0, False), ((),))), 2, None, 'stand', 0),
                (alone(((3, 0), ((),))), 2, None, 'stand', 0), (alone([(0, 0), ((),)]), 2, None, 'stand', 0),
                ((first,), 2, None, 'move', 0), ((first, second), 2, None, 'move', 1), (HEIGHTS, 1, None, 'above', 2),
                (((first[0], 3), second, third), 2, None, 'above', 0), (((first[0], 1), second, third), 2, None, 'move', 0),
                ((first, (second[0], 2), third), 2, None, 'move', 1), ((third, second, (first[0], 1)), 2, None, 'move', 2),
                ((second, third, (first[0], 9)), 2, None, 'above', 2), (HEIGHTS, 2, None, 'shape', -1), (HEIGHTS, 2, [], 'shape', -1),
                (HEIGHTS, 2, WAY[1:], 'place', 0), (HEIGHTS, 2, (None,), 'event', 0), (HEIGHTS, 2, (('bob', 0),), 'channel', 0),
                (HEIGHTS, 2, (), 'lying', -1), (HEIGHTS, 2, WAY[:1], 'lying', -1), (HEIGHTS, 3, WAY, 'lying', -1)):
            thing = ('most', most, heights, run)
            self.assertEqual(outcome(lets_growth, LATE, thing), paper(word, at), thing)
            self.check(LATE, thing)

    def test_above_of_one_stand_comes_before_its_move_and_all_of_one_before_the_next(self):
        first, second, third = HEIGHTS
        self.assertEqual(outcome(lets_growth, LATE, ('most', 1, ((first[0], 2),), ())), paper('above', 0))
        self.assertEqual(outcome(lets_growth, LATE, ('most', 1, ((first[0], 1), second, (third[0], 9)), ())), paper('move', 0))

    def test_any_order_greater_numbers_and_longer_runs(self):
        """Papers that growth_paper would not return may be true, too."""
        self.assertEqual(lets_growth(LATE, ('most', 2, HEIGHTS[::-1], WAY)), 2)
        nap = (((LATE[0][0][0], (2,), LATE[0][0][2] + ((2, ('do', 'nap'), 2),)), LATE[0][1]), LATE[1])
        for k in range(4):
            self.assertEqual(lets_growth(nap, ('most', 2, HEIGHTS, WAY + (('ann', 2),) * k * 40)), 2)
        # Stands that cannot come, with greater numbers than they need.
        spare = HEIGHTS + ((((2, 1), (('old',),)), 2), (((2, 1), ((),)), 1))
        self.assertEqual(lets_growth(LATE, ('most', 2, spare, WAY)), 2)
        self.assertEqual(outcome(lets_growth, LATE, ('most', 2, spare[:4] + ((((2, 1), ((),)), 3),), WAY)), paper('above', 4))

    def test_words_of_endless(self):
        one = (('ann', 0),)
        exchange = (('ann', 0), ('bob', 0))
        for run, steps, word, at in (
                (None, (), 'shape', -1), ([], (), 'shape', -1), ((None,), (), 'event', 0), ((('bob', 0),), None, 'shape', -1),
                ((('bob', 0),), (None,), 'channel', 0), ((), (), 'grows', -1), ((), (exchange,), 'grows', -1), ((), (exchange,) * 9, 'grows', -1),
                ((), (one,), 'back', -1), ((), (one, one), 'back', -1), ((), (exchange, one, exchange), 'move', 2), ((), (None,), 'move', 0),
                ((), ((('ann', False),),), 'move', 0), ((), ([('ann', 0)],), 'move', 0), ((), (('ann', 0),), 'move', 0), ((), ((),), 'move', 0),
                ((), ((('bob', 0),),), 'move', 0), (one, (exchange,), 'move', 0), (one, (one, ('ann', 0)), 'move', 1),
                (one, (one, (['ann', 0],)), 'move', 1)):
            thing = ('endless', run, steps)
            self.assertEqual(outcome(lets_growth, STREAM, thing), paper(word, at), thing)
            self.check(STREAM, thing)
        for k in range(1, 50, 12):
            self.assertIs(lets_growth(STREAM, ('endless', one * k, (one,) * k)), None)
        self.assertIs(lets_growth(STREAM, ('endless', (('ann', 0), ('ann', 0), ('bob', 0)), (one,))), None)
        self.assertEqual(outcome(lets_growth, STREAM, ('endless', (('ann', 0), ('bob', 0)), (one,))), paper('back', -1))

    def test_turned_ways_round(self):
        for program in GROWING:
            for only in channels_that_count(program):
                made = growth_paper(program, only=only)
                if made[0] == 'endless':
                    _, run, steps = made
                    for k in range(len(steps)):
                        way = run + tuple(event for step in steps[:k] for event in step)
                        turned = ('endless', way, steps[k:] + steps[:k])
                        self.assertIs(lets_growth(program, turned, only=only), None)
                        self.assertIs(lets_growth(program, ('endless', way, turned[2] * 3), only=only), None)

    def test_only_tells_which_moves_grow(self):
        _, run, steps = growth_paper(HALF, only='q')
        self.assertIs(lets_growth(HALF, ('endless', run, steps)), None)
        self.assertEqual(outcome(lets_growth, ONCE, ('endless',) + growth_paper(ONCE, only='q')[1:], only='r'), paper('grows', -1))
        self.assertEqual(outcome(lets_growth, ASK, growth_paper(ASK, only='out'), only='back')[1][0], 'InvalidPaper')
        heights = growth_paper(ASK)
        self.assertEqual(heights[1], 1)
        self.check(ASK, heights, 'out')
        self.check(ASK, heights, 'back')

    def test_a_program_that_is_not_as_calls(self):
        """lets_growth never raises NotCalls; the ways round are endless there, too."""
        loops = ((('ann', (), ANN_LOOP), ('bob', (), BOB_LOOP)), CHANNELS)
        self.assertIs(is_as_calls(loops), False)
        once = (('ann', 0),)
        self.assertIs(lets_growth(loops, ('endless', once, (once,))), None)
        self.assertEqual(outcome(lets_growth, loops, ('endless', (), (once,))), paper('back', -1))
        stands = tuple((stand, 2) for stand in standmodel.stand_costs(BOTH))
        self.check(BOTH, ('most', 2, stands, CROSS[:2]))
        numbers = {stand: sum(len(head) for head in stand[1]) for stand in standmodel.stand_costs(BOTH)}
        thing = ('most', 2, tuple(numbers.items()), CROSS[:2])
        self.assertEqual(self.check(BOTH, thing), returned(2))
        self.assertEqual(outcome(lets_growth, BOTH, ('most', 2, tuple(numbers.items()), ())), paper('lying', -1))

    def test_papers_with_one_place_changed(self):
        things = THINGS + (2, 3, ('old',), ('new',), ('new', 'old'), 'most', 'endless', ('ann', 1), ('ann', 0), ('bob', 0))
        for program, only in ((EMPTY, None), (LATE, 'q'), (BAG, None), (STREAM, None), (with_forms(STREAM, 'bag'), 'q'), (ONCE, 'q')):
            for _, changed in mutants(growth_paper(program, only=only), things):
                self.check(program, changed, only)

    def test_papers_with_other_numbers_and_stands(self):
        random = Random(269)
        told = []
        for program in (LATE, BAG, ASK, TWO, TWO_BAG, ROUND_CALLED, ASK_CALLED) + tuple(programs_as_calls(random, 20)):
            every = standmodel.all_stands(program)
            for only in channels_that_count(program):
                made = growth_paper(program, only=only)
                for _ in range(12):
                    heights = list(made[2])
                    k = random.randrange(len(heights))
                    heights[k] = random.choice(((heights[k][0], heights[k][1] + 1), (heights[k][0], max(0, heights[k][1] - 1)),
                                                (random.choice(every), heights[k][1])))
                    random.shuffle(heights)
                    thing = ('most', made[1] + random.choice((0, 0, 1)), tuple(heights), made[3])
                    told.append(self.check(program, thing, only)[0])
        self.assertEqual(set(told), {'raises', 'returns'})

    def test_accepted_papers_are_true(self):
        """(C8): what an accepted paper states of a program that is as calls is so."""
        random = Random(271)
        accepted = 0
        for program in programs_as_calls(random, 40):
            most = most_by_runs(program, None)
            heights = growth_paper(program)[2]
            states = list(model.all_states(program, 99).values())
            for _ in range(20):
                higher = random.choice((0, 0, 1))
                numbers = tuple((stand, number + random.choice((0, 0, 0, 0, higher))) for stand, number in heights)
                thing = ('most', most + random.choice((-1, 0, 0, 1)), numbers, tuple(random.choice(states).events))
                result = outcome(lets_growth, program, thing)
                if result[0] == 'returns':
                    accepted += 1
                    self.assertEqual(result, returned(most))
            for _ in range(10):
                state = random.choice(states)
                moves = tuple(standmodel.moves(program, model.stand_of(state)))
                thing = ('endless', tuple(state.events), tuple(random.choice(moves) for _ in range(random.randint(0, 2)) if moves))
                self.assertEqual(outcome(lets_growth, program, thing)[0], 'raises')
        self.assertGreater(accepted, 20)


ANN_LOOP = ((0, ('put', 'out', 'hi'), 0), (0, ('take', 'back', 'ok'), 0))
BOB_LOOP = ((0, ('put', 'back', 'ok'), 0), (0, ('take', 'out', 'hi'), 0))


def with_other_names(program):
    """The program, with no name of a party or a channel in common with the others of these tests."""
    names = {'ann': 'dan', 'bob': 'eve', 'cid': 'fay', 'd': 'gus', 'e': 'hal', 'a': 'ian', 'abcdefgh': 'jim'}
    channels = {row[0]: f'n{row[0]}'[:8] for row in program[1]}
    parties = []
    for name, ends, arrows in program[0]:
        moved = tuple((start, doing if doing[0] == 'do' else (doing[0], channels[doing[1]], doing[2]), end) for start, doing, end in arrows)
        parties.append((names[name], ends, moved))
    return (tuple(sorted(parties)), tuple(sorted((channels[a], names[b], names[c], form) for a, b, c, form in program[1])))


def joined(program, other):
    """The program with the parties and the channels of both."""
    return (tuple(sorted(program[0] + other[0])), tuple(sorted(program[1] + other[1])))


def at_most(most, other):
    """Whether a number, or no bound, is not greater than another one."""
    return other is None or (most is not None and most <= other)


class ConsequenceTests(unittest.TestCase):
    def test_without_only(self):
        random = Random(277)
        for program in GROWING + AS_CALLS + tuple(programs_as_calls(random, 30)):
            counts = [most_lying(program, only=row[0]) for row in program[1] if row[3] != 'call']
            most = most_lying(program)
            self.assertEqual(most is None, None in counts)
            if most is not None:
                self.assertTrue(max(counts, default=0) <= most <= sum(counts))

    def test_more_calls(self):
        for program in GROWING + AS_CALLS + tuple(programs_as_calls(Random(281), 15)):
            for names in standmodel.subsets(row[0] for row in program[1])[:12]:
                changed = with_calls(program, names)
                self.assertTrue(at_most(most_lying(changed), most_lying(program)))
                for only in channels_that_count(changed):
                    self.assertTrue(at_most(most_lying(changed, only=only), most_lying(program, only=only)))

    def test_two_programs_side_by_side(self):
        random = Random(283)
        pairs = [(random.choice(FINITE + GROWING), random.choice(FINITE + GROWING)) for _ in range(25)] + [(STREAM, HALF), (EMPTY, LATE)]
        for program, part in pairs:
            other = with_other_names(part)
            both = joined(program, other)
            self.assertIs(is_as_calls(both), True)
            counts = (most_lying(program), most_lying(other))
            self.assertEqual(most_lying(both), None if None in counts else sum(counts))
            for party in program[0]:
                self.assertEqual(view_rows(both, party[0]), view_rows(program, party[0]))
            for party in other[0]:
                self.assertEqual(view_rows(both, party[0]), view_rows(other, party[0]))

    def test_contents(self):
        for program in (LATE, BAG, ASK):
            made = growth_paper(program)
            self.assertEqual(sum(len(names) for names in contents_of(program, made[3])), made[1])

    def test_arguments_stay(self):
        for program in (MIXED, MIXED_BAGS, ROUND):
            before = kinds_in(program)
            outcome(most_lying, program)
            self.assertEqual(kinds_in(program), before)
        thing = ('most', 2, replaced(HEIGHTS, (0, 0), [1]), WAY)
        self.assertEqual(outcome(lets_growth, LATE, thing), paper('stand', 0))


if __name__ == '__main__':
    unittest.main()
