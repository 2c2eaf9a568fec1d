"""[9] (C8), [61] to [70]: a watch that follows a running program."""

import unittest
from random import Random

from ascalls.errors import InvalidEvent, InvalidPaper, NothingToUndo, NotUsable
from ascalls.judging import is_as_calls
from ascalls.kinds import is_watch_event
from ascalls.letters import is_behind, letters_of, shortest_ring
from ascalls.programchecker import lets_program
from ascalls.runs import is_run, next_steps, places_after
from ascalls.watches import Watch
from tests import standmodel, watchmodel
from tests.samples import (ASK, ASK_CALLED, BARE, BOTH, BOTH_CALLED, CHANNELS, EMPTY, MIXED, MIXED_BAGS, MIXED_CALLS, NEVER, PROGRAMS, ROUND,
                           ROUND_CALLED, SOMETIMES, TURN, TWO, TWO_BAG, TWO_CALLED, kinds_in, mutants, outcome, raised, returned,
                           unusable, with_forms)
from tests.test_letters import CROSS, MANY
from tests.test_standing import AS_CALLS

THINGS = NEVER + SOMETIMES
EVENTS = (('did', (('ann', 0),)), ('did', (('ann', 0), ('bob', 0))), ('form', 'out', 'bag'), ('guard', 'on'), ('mark', 'half'),
          ('arrow', 'ann', (0, ('put', 'out', 'hi'), 1)), ('arrow', 'bob', (2, ('do', 'nap'), 7)))
NAP = ('arrow', 'ann', (0, ('do', 'nap'), 0))


def single(*events):
    """The watch events of these events as steps of their own."""
    return tuple(('did', (event,)) for event in events)


def refused(event, reason):
    """The outcome of a watch event that is not possible."""
    return raised('InvalidEvent', event=event, reason=reason)


def seen(watch):
    """All that can be asked of a watch without an argument."""
    return (watch.program_now, watch.places_now, watch.lying_now, watch.steps_now, watch.crossings_now, watch.guard_now,
            watch.table(), watch.log(), str(watch), len(watch), list(watch))


def ask_all(watch):
    """Ask all that can be asked."""
    seen(watch)
    for thing in THINGS + EVENTS + ('ann', 'half'):
        watch.barred(thing)
        outcome(watch.tried, thing, thing)
        outcome(watch.letters_since, thing)
        outcome(watch.is_sure_since, thing)
        _ = (thing in watch, watch == thing, watch.ring_now, watch.tally())
        try:
            _ = watch[thing]
        except NotUsable:
            pass


class MadeTests(unittest.TestCase):
    def test_made(self):
        for program in PROGRAMS:
            for guard in ('on', 'off'):
                watch = Watch(program, guard=guard)
                self.assertEqual(kinds_in(watch.program_now), kinds_in(program))
                self.assertEqual((watch.places_now, watch.lying_now, watch.crossings_now), ((0,) * len(program[0]), (), ()))
                self.assertEqual((watch.steps_now, watch.ring_now, watch.guard_now), (next_steps(program, ()), None, guard))
                self.assertEqual((len(watch), watch.tally(), watch.log(), str(watch)), (0, (0, 0), (('watch', program, guard),), '-'))
                self.assertEqual(watch.table(), [])
        self.assertEqual(Watch(BOTH).guard_now, 'off')
        self.assertEqual((Watch.MOST, Watch(EMPTY).MOST), (40, 40))
        self.assertEqual(Watch(guard='on', program=ASK).guard_now, 'on')

    def test_errors(self):
        for thing in [thing for thing in THINGS if thing != ((), ())] + [(ASK[0], ()), (ASK[0], CHANNELS + CHANNELS), list(ASK), ASK[0]]:
            for guard in ('on', None):
                told = outcome(Watch, thing, guard=guard)
                self.assertEqual(told, outcome(lets_program, thing))
                self.assertEqual(told[1][0], 'InvalidPaper')
        with self.assertRaises(InvalidPaper):
            Watch((ASK[0][:1], CHANNELS))
        for guard in THINGS + ('On', 'of', 'queue', ('on',), ['off'], 1, True):
            self.assertEqual(outcome(Watch, ASK, guard=guard), unusable('guard'))
        with self.assertRaises(TypeError):
            Watch(ASK, 'on')


class RandomTests(unittest.TestCase):
    def check(self, watch, follower):
        """All that the watch tells is what the document says of the whole run."""
        self.assertEqual(kinds_in(watch.program_now), kinds_in(follower.program()))
        self.assertEqual(kinds_in(watch.places_now), kinds_in(tuple(follower.places.values())))
        self.assertEqual(kinds_in(watch.lying_now), kinds_in(follower.lying()))
        self.assertEqual(kinds_in(watch.steps_now), kinds_in(follower.steps()))
        self.assertEqual(kinds_in(watch.crossings_now), kinds_in(follower.crossings()))
        self.assertEqual(watch.guard_now, follower.guard)
        self.assertEqual(kinds_in(watch.table()), kinds_in(follower.table()))
        self.assertEqual(len(watch), follower.count)
        ring = watch.ring_now
        self.assertEqual(ring is None, not follower.has_ring())
        self.assertTrue(ring is None or watchmodel.is_ring(follower, ring))
        for name in follower.marks:
            told = (watch.letters_since(name), watch.is_sure_since(name))
            self.assertEqual(kinds_in(told), kinds_in(follower.since(name)))
        self.assertEqual([watch[name] for name in watch], list(follower.places.values()))

    def drive(self, random, program, many, told):
        guard = random.choice(('on', 'off', 'off'))
        watch, follower, events, calls = Watch(program, guard=guard), watchmodel.Follower(program, guard), [], 0
        for _ in range(many):
            if random.random() < 0.08:
                calls += 1
                if events:
                    self.assertEqual(watch.undo(), events.pop())
                    follower = watchmodel.followed(program, guard, events)
                else:
                    self.assertEqual(outcome(watch.undo), raised('NothingToUndo', steps=0))
                self.check(watch, follower)
            event = watchmodel.random_event(random, follower)
            reason = follower.reason(event)
            self.assertEqual(watch.barred(event), reason, (watch.log(), event))
            told[reason] = told.get(reason, 0) + 1
            had_ring, before, calls = follower.has_ring(), seen(watch), calls + 1
            closes = event[0] == 'did' and len(event[1]) == 1 and event[1][0] in watch.crossings_now
            result = outcome(watch.go, event)
            if reason is None:
                self.assertEqual(result, returned(follower.apply(event)))
                events.append(event)
                self.check(watch, follower)
                if not had_ring:
                    self.assertIs(follower.has_ring(), closes)
                told['ring'] = told.get('ring', 0) + follower.has_ring()
            else:
                self.assertEqual(result, refused(event, reason))
                self.assertEqual(seen(watch), before)
            self.assertEqual(watch.tally(), (calls, calls))
        self.assertEqual(watch.log(), (('watch', program, guard), *events))

    def test_random_watches(self):
        random = Random(433)
        told = {}
        for program in list(PROGRAMS) + [MANY] + watchmodel.random_programs(random, 60):
            self.drive(random, program, random.choice((30, 45, 90)), told)
        for reason in ('full', 'party', 'arrow', 'place', 'channel', 'cross', 'busy', 'same', 'twice', 'ring'):
            self.assertGreater(told.get(reason, 0), 5, reason)

    def test_many_letters(self):
        random = Random(439)
        for program in (MIXED, MIXED_BAGS, MIXED_CALLS, with_forms(ROUND, 'bag', 'queue', 'bag'), LOOPS):
            for _ in range(4):
                self.drive(random, program, 60, {})


# Each of two parties puts and takes as it likes.
LOOPS = ((('ann', (0,), ((0, ('put', 'out', 'a'), 0), (0, ('put', 'out', 'b'), 0), (0, ('take', 'back', 'a'), 0), (0, ('take', 'back', 'b'), 0))),
          ('bob', (0,), ((0, ('put', 'back', 'a'), 0), (0, ('put', 'back', 'b'), 0), (0, ('take', 'out', 'a'), 0), (0, ('take', 'out', 'b'), 0)))),
         (('back', 'bob', 'ann', 'queue'), ('out', 'ann', 'bob', 'bag')))


class WholeRunTests(unittest.TestCase):
    def test_runs_of_one_program(self):
        """While the program stays, what a watch tells is what the functions of runs and letters tell of its run."""
        random = Random(443)
        for program in list(PROGRAMS) + [MANY, LOOPS] + watchmodel.random_programs(random, 30):
            watch, made = Watch(program), ()
            for _ in range(14):
                steps = next_steps(program, made)
                self.assertEqual(watch.steps_now, steps)
                self.assertEqual(watch.places_now, places_after(program, made))
                rows = letters_of(program, made)
                lying = [m for m, row in enumerate(rows) if row[3] is None]
                self.assertEqual([row[:3] for row in watch.lying_now], [(m, *rows[m][:2]) for m in lying])
                for m, _, _, _, behind in watch.lying_now:
                    self.assertEqual(behind, tuple(n for n in lying if is_behind(program, made, n, m)))
                self.assertEqual(watch.ring_now is None, shortest_ring(program, made) is None)
                if shortest_ring(program, made) is None:
                    closing = [step[0] for step in steps if len(step) == 1 and shortest_ring(program, made + step) is not None]
                    self.assertEqual(watch.crossings_now, tuple(closing))
                if steps:
                    step = random.choice(steps)
                    watch.did(*step)
                    made += step

    def test_examples(self):
        watch = Watch(BOTH)
        told = [watch.did(('ann', 0)), watch.did(('bob', 0)), watch.did(('ann', 1)), watch.lying_now, watch.crossings_now]
        self.assertEqual(told, [0, 1, 1, ((0, 'out', 'hi', ('ann', 'bob'), ()),), (('bob', 1),)])
        self.assertEqual([watch.set_guard('on'), watch.steps_now, watch.ring_now], [None, (), None])
        self.assertEqual(outcome(watch.did, ('bob', 1)), refused(('did', (('bob', 1),)), 'cross'))
        watch = Watch(ROUND)
        self.assertEqual(watch.do_all(*single(('ann', 0), ('ann', 1), ('cid', 0)), ('mark', 'half'), ('did', (('cid', 1),))), 5)
        self.assertEqual(watch.table(), ['  0 x        hi       ann,cid 2', '  2 z        hi       cid -'])
        self.assertEqual([watch.letters_since('half'), watch.is_sure_since('half'), watch['cid'], len(watch)], [(2,), False, 2, 5])

    def test_the_ring_of_round(self):
        watch = Watch(ROUND)
        watch.do_all(*single(*TURN[:5]))
        self.assertEqual((watch.ring_now, watch.crossings_now), (None, (('bob', 1),)))
        self.assertEqual(watch.lying_now, ((0, 'x', 'hi', ('ann', 'bob', 'cid'), ()),))
        self.assertEqual(watch.did(TURN[5]), 0)
        self.assertEqual(sorted(watch.ring_now), [0, 1, 2])

    def test_letters_that_are_taken_and_still_behind_others(self):
        # y is taken, but it stands between x and z.
        watch = Watch(ROUND)
        watch.do_all(*single(*TURN[:4]))
        self.assertEqual(watch.lying_now, ((0, 'x', 'hi', ('ann', 'cid'), (2,)), (2, 'z', 'hi', ('cid',), ())))
        watch.did(TURN[4])
        self.assertEqual(watch.lying_now, ((0, 'x', 'hi', ('ann', 'bob', 'cid'), ()),))

    def test_a_letter_that_is_behind_itself(self):
        # 0 is ahead of 1 and 1 ahead of 2 at ann, 2 ahead of 0 at bob; 1 is never taken.
        watch = Watch(LOOPS)
        watch.do_all(*single(('ann', 0), ('ann', 1), ('bob', 0), ('ann', 2)))
        self.assertEqual(watch.lying_now, ((0, 'out', 'a', ('ann', 'bob'), (1,)), (1, 'out', 'b', ('ann', 'bob'), ())))
        self.assertEqual(watch.crossings_now, (('bob', 2), ('bob', 3)))
        watch.did(('bob', 2))
        self.assertEqual(watch.lying_now, ((1, 'out', 'b', ('ann', 'bob'), (1,)),))
        self.assertTrue(watchmodel.is_ring(watchmodel.followed(LOOPS, 'off', watch.log()[1:]), watch.ring_now))
        self.assertEqual(watch.table(), ['  1 out      b        ann,bob 1'])
        random = Random(449)
        found = 0
        for _ in range(60):
            watch = Watch(LOOPS)
            for _ in range(14):
                watch.did(*random.choice(watch.steps_now))
                self.assertEqual(watch.lying_now, watchmodel.followed(LOOPS, 'off', watch.log()[1:]).lying())
                found += any(row[0] in row[4] for row in watch.lying_now)
        self.assertGreater(found, 100)

    def test_exchanges_on_a_call(self):
        watch = Watch(ASK_CALLED)
        self.assertEqual(watch.steps_now, ((('ann', 0), ('bob', 0)),))
        self.assertEqual(watch.did(('ann', 0), ('bob', 0)), 0)
        self.assertEqual((watch.places_now, watch.lying_now), ((1, 1), ()))
        self.assertEqual(watch.did(('bob', 1)), 1)
        self.assertEqual(watch.did(('ann', 1)), 1)
        self.assertEqual((watch.ring_now, len(watch), str(watch)), (None, 3, 'did ann 0 bob 0 / did bob 1 / did ann 1'))

    def test_an_exchange_closes_no_ring_and_the_guard_allows_it(self):
        watch = Watch(BOTH, guard='on')
        watch.do_all(*single(('ann', 0), ('bob', 0), ('ann', 1)))
        watch.do_all(('form', 'back', 'call'), ('arrow', 'bob', (1, ('put', 'back', 'no'), 1)), ('arrow', 'ann', (2, ('take', 'back', 'no'), 2)))
        self.assertEqual(watch.crossings_now, (('bob', 1),))
        self.assertEqual(watch.steps_now, ((('bob', 2), ('ann', 2)),))
        self.assertEqual(watch.did(('bob', 2), ('ann', 2)), 2)
        self.assertEqual(watch.lying_now, ((0, 'out', 'hi', ('ann', 'bob'), ()),))
        self.assertEqual(watch.barred(('did', (('bob', 1),))), 'cross')

    def test_a_put_of_one_who_takes_at_once_but_not_on_a_call(self):
        watch = Watch(ASK)
        self.assertEqual(watch.barred(('did', (('ann', 0), ('bob', 0)))), 'channel')

    def test_forms_while_letters_lie_and_when_none_lies(self):
        watch = Watch(MIXED)
        self.assertEqual(watch.did(('ann', 1)), 0)
        for form in ('bag', 'call', 'queue'):
            self.assertEqual(outcome(watch.set_form, 'q', form), refused(('form', 'q', form), 'busy'))
        self.assertIs(watch.set_form('r', 'call'), None)
        self.assertEqual(watch.did(('bob', 0)), 0)
        self.assertIs(watch.set_form('q', 'call'), None)
        self.assertEqual(watch.barred(('did', (('ann', 0),))), 'place')
        self.assertEqual(watch.program_now, with_forms(MIXED, 'call', 'call', 'queue'))
        self.assertEqual(watch.steps_now, ((('ann', 2),), (('ann', 3), ('bob', 2)), (('bob', 3),)))
        self.assertEqual(watch.lying_now, ())

    def test_a_bag_lets_letters_pass(self):
        program = ((MIXED[0][0], ('bob', (), ((0, ('take', 'q', 'b'), 0), (0, ('take', 'q', 'a'), 0)))), MIXED[1][:2] + MIXED[1][2:])
        for form, steps in (('queue', ()), ('bag', ((('bob', 0),),))):
            watch = Watch(with_forms(program, form, 'queue', 'queue'))
            watch.do_all(*single(('ann', 0), ('ann', 0), ('ann', 1)))
            told = tuple(step for step in watch.steps_now if step[0][0] == 'bob')
            self.assertEqual(told, steps + ((('bob', 1),),))
            self.assertEqual(watch.barred(('did', (('bob', 0),))), None if steps else 'channel')
        self.assertEqual(watch.did(('bob', 0)), 2)
        self.assertEqual(watch.crossings_now, (('bob', 1),))
        self.assertEqual(watch.did(('bob', 1)), 0)
        self.assertEqual(sorted(watch.ring_now), [0, 2])
        self.assertEqual(watch.did(('bob', 1)), 1)

    def test_arrows_that_come_later(self):
        watch = Watch(ASK)
        self.assertIs(watch.add_arrow('bob', (0, ('do', 'nap'), 7)), None)
        self.assertEqual(watch.program_now[0][1][2], ASK[0][1][2] + ((0, ('do', 'nap'), 7),))
        self.assertEqual(watch.did(('bob', 2)), None)
        self.assertEqual((watch['bob'], watch.steps_now), (7, ((('ann', 0),),)))
        self.assertIs(watch.add_arrow('bob', (7, ('put', 'back', 'ok'), 7)), None)
        self.assertEqual([watch.did(('bob', 3)) for _ in range(3)], [0, 1, 2])
        self.assertEqual(watch.program_now[0][1][1], (2,))

    def test_the_run_stays_whatever_the_program_was(self):
        # The letters crossed while both channels were queues; the program later is as calls.
        watch = Watch(BOTH)
        watch.do_all(*single(*CROSS), ('form', 'back', 'call'), ('form', 'out', 'call'))
        self.assertIs(is_as_calls(watch.program_now), True)
        self.assertEqual(sorted(watch.ring_now), [0, 1])
        self.assertIs(is_run(watch.program_now, CROSS), False)

    def test_guard_behind_a_ring(self):
        """A guard that comes behind a ring forbids further takes that close one."""
        watch = Watch(LOOPS)
        watch.do_all(*single(('ann', 0), ('bob', 0), ('ann', 2), ('bob', 2)), ('guard', 'on'))
        self.assertEqual(sorted(watch.ring_now), [0, 1])
        watch.do_all(*single(('ann', 0), ('bob', 0), ('ann', 2)))
        self.assertEqual(watch.crossings_now, (('bob', 2),))
        self.assertEqual(outcome(watch.did, ('bob', 2)), refused(('did', (('bob', 2),)), 'cross'))
        self.assertNotIn((('bob', 2),), watch.steps_now)
        watch.guard_now = 'off'
        self.assertIn((('bob', 2),), watch.steps_now)
        self.assertEqual(watch.crossings_now, (('bob', 2),))
        self.assertEqual(watch.did(('bob', 2)), 2)


class FormTests(unittest.TestCase):
    """[61]: watch events by form; any value."""

    def test_right(self):
        for event in EVENTS + (('form', 'zed', 'call'), ('form', 'zed', 'queue'), ('guard', 'off'), ('did', (('zed', 10 ** 59),)),
                               ('arrow', 'zed', (0, ('take', 'zed', 'zed'), 10 ** 59)), ('mark', 'abcdefgh')):
            self.assertIs(is_watch_event(event), True)
            self.assertIs(watchmodel.by_form(event), True)
            self.assertNotEqual(Watch(ASK).barred(event), 'shape')

    def test_wrong(self):
        for thing in NEVER + SOMETIMES + (
                ('did', ()), ('did', (('ann', 0),) * 3), ('did', ('ann', 0)), ('did', (('ann', 0), None)), ('did', (('ann', True),)),
                ('did', (('ann', -1),)), ('did', (('Ann', 0),)), ('did', [('ann', 0)]), ('did', (['ann', 0],)), ('did', (('ann', 0, 0),)), ('did',),
                ('did', (('ann', 0),), ()), ['did', (('ann', 0),)], ('form', 'out', 'Bag'), ('form', 'out'), ('form', 'Out', 'bag'),
                ('form', 'out', 'bag', 'bag'), ('form', 'out', None), ('form', 'out', ['bag']), ('guard',), ('guard', 'On'), ('guard', True),
                ('guard', 'on', 'on'), ('guard', ('on',)), ('arrow', 'ann'), ('arrow', 'ann', ()), ('arrow', 'ann', (0, ('do', 'nap'))),
                ('arrow', 'ann', [0, ('do', 'nap'), 0]), ('arrow', 'ann', (0, ['do', 'nap'], 0)), ('arrow', 'ann', (False, ('do', 'nap'), 0)),
                ('arrow', 'ann', (0, ('do', 'nap'), True)), ('arrow', 'Ann', NAP[2]), ('arrow', 'ann', NAP[2], 0), ('mark',), ('mark', ''),
                ('mark', 'Half'), ('mark', 'half', 0), ('mark', ('half',)), ('Did', (('ann', 0),)), ('undo',), ('watch', ASK, 'on'), (('did',), ())):
            self.assertIs(is_watch_event(thing), False, thing)
            self.assertEqual(Watch(ASK).barred(thing), 'shape')
            self.assertEqual(outcome(Watch(ASK).go, thing), refused(thing, 'shape'))

    def test_one_place_changed(self):
        for event in EVENTS:
            for _, changed in mutants(event, THINGS + ('on', 'off', 'bag', ('do', 'nap'), ('put', 'out', 'hi'), (('ann', 0),))):
                self.assertIs(is_watch_event(changed), watchmodel.by_form(changed), changed)
                wanted = watchmodel.Follower(ASK).reason(changed)
                watch = Watch(ASK)
                self.assertEqual(watch.barred(changed), wanted, changed)
                result = outcome(watch.go, changed)
                self.assertEqual(result[0], 'raises' if wanted else 'returns')
                if wanted:
                    self.assertEqual(result, refused(changed, wanted))
                    self.assertEqual(watch.log(), Watch(ASK).log())

    def test_lists_deep_within(self):
        for event in EVENTS:
            for path, changed in mutants(event, ()):
                self.assertEqual(Watch(ASK).barred(changed), 'shape', (path, changed))


class ReasonTests(unittest.TestCase):
    def check(self, program, events, event, reason):
        watch = Watch(program)
        watch.do_all(*events)
        before, tally = seen(watch), watch.tally()
        self.assertEqual(watch.barred(event), reason, event)
        self.assertEqual(watchmodel.followed(program, 'off', events).reason(event), reason)
        if reason is not None:
            with self.assertRaises(InvalidEvent) as told:
                watch.go(event)
            self.assertIs(told.exception.event, event)
            self.assertEqual((told.exception.reason, seen(watch)), (reason, before))
            self.assertEqual(watch.tally(), (tally[0] + 1, tally[1] + 1))

    def test_did(self):
        two = ((('ann', (), ((0, ('put', 'c', 'a'), 1), (0, ('put', 'q', 'a'), 1), (1, ('put', 'c', 'b'), 1), (0, ('do', 'nap'), 0))),
                ('bob', (), ((0, ('take', 'c', 'a'), 1), (0, ('take', 'q', 'a'), 0), (1, ('take', 'c', 'b'), 1), (0, ('do', 'nap'), 0),
                             (0, ('take', 'q', 'b'), 0)))),
               (('c', 'ann', 'bob', 'call'), ('q', 'ann', 'bob', 'queue')))
        for step, reason in (
                ((('zed', 0),), 'party'), ((('zed', 99),), 'party'), ((('ann', 4),), 'arrow'), ((('ann', 10 ** 59),), 'arrow'),
                ((('ann', 2),), 'place'), ((('bob', 2),), 'place'), ((('ann', 0),), 'channel'), ((('bob', 0),), 'channel'),
                ((('bob', 1),), 'channel'), ((('ann', 1),), None), ((('ann', 3),), None), ((('ann', 0), ('bob', 0)), None),
                # The first one of two events, then the second one.
                ((('zed', 0), ('ann', 99)), 'party'), ((('ann', 9), ('zed', 0)), 'arrow'), ((('ann', 2), ('zed', 0)), 'place'),
                ((('ann', 1), ('zed', 0)), 'channel'), ((('ann', 3), ('zed', 0)), 'channel'), ((('bob', 0), ('zed', 0)), 'channel'),
                ((('bob', 0), ('ann', 0)), 'channel'), ((('ann', 0), ('zed', 0)), 'party'), ((('ann', 0), ('bob', 9)), 'arrow'),
                ((('ann', 0), ('bob', 2)), 'place'), ((('ann', 0), ('ann', 2)), 'place'), ((('ann', 0), ('bob', 1)), 'channel'),
                ((('ann', 0), ('bob', 3)), 'channel'), ((('ann', 0), ('ann', 0)), 'channel'), ((('ann', 0), ('ann', 3)), 'channel'),
                ((('ann', 1), ('bob', 1)), 'channel'), ((('bob', 3), ('bob', 3)), 'channel')):
            self.check(two, (), ('did', step), reason)
        put = single(('ann', 1))
        for step, reason in (((('bob', 1),), None), ((('bob', 4),), 'channel'), ((('ann', 1),), 'place'), ((('ann', 2), ('bob', 0)), 'channel'),
                             ((('ann', 2), ('bob', 2)), 'place')):
            self.check(two, put, ('did', step), reason)

    def test_the_first_letter_of_a_queue_alone(self):
        for program, reason in ((with_forms(MIXED, 'queue', 'queue', 'queue'), 'channel'), (MIXED_BAGS, None)):
            self.check(program, single(('ann', 0), ('ann', 1)), ('did', (('bob', 0),)), reason)
            self.check(program, single(('ann', 0), ('ann', 1)), ('did', (('bob', 1),)), None)

    def test_cross_is_the_last_reason(self):
        crossed = single(('ann', 0), ('bob', 0), ('ann', 1))
        self.check(BOTH, crossed + (('guard', 'on'),), ('did', (('bob', 1),)), 'cross')
        self.check(BOTH, crossed, ('did', (('bob', 1),)), None)
        self.check(BOTH, crossed + (('guard', 'on'),), ('did', (('bob', 0),)), 'place')
        self.check(BOTH, crossed + (('guard', 'on'), ('guard', 'off')), ('did', (('bob', 1),)), None)
        self.check(BOTH, (('guard', 'on'),) + single(('ann', 0), ('bob', 0)), ('did', (('bob', 1),)), None)

    def test_form(self):
        lies = single(('ann', 0))
        for events, channel, form, reason in (
                ((), 'zed', 'bag', 'channel'), ((), 'ann', 'bag', 'channel'), ((), 'out', 'queue', 'same'), ((), 'out', 'bag', None),
                ((), 'out', 'call', None), (lies, 'out', 'bag', 'busy'), (lies, 'out', 'queue', 'busy'), (lies, 'back', 'call', None),
                (lies, 'back', 'queue', 'same'), (lies + single(('bob', 0)), 'out', 'call', None), (lies, 'zed', 'queue', 'channel'),
                ((('form', 'out', 'bag'),), 'out', 'bag', 'same'), ((('form', 'out', 'bag'),), 'out', 'queue', None)):
            self.check(ASK, events, ('form', channel, form), reason)

    def test_guard(self):
        for events, word, reason in (((), 'off', 'same'), ((), 'on', None), ((('guard', 'on'),), 'on', 'same'), ((('guard', 'on'),), 'off', None)):
            self.check(ASK, events, ('guard', word), reason)
        self.assertEqual(Watch(ASK, guard='on').barred(('guard', 'on')), 'same')
        self.assertIs(Watch(ASK, guard='on').barred(('guard', 'off')), None)

    def test_arrow(self):
        for party, arrow, reason in (
                ('zed', NAP[2], 'party'), ('zed', (0, ('put', 'zed', 'a'), 0), 'party'), ('ann', (0, ('put', 'zed', 'a'), 0), 'channel'),
                ('ann', (0, ('take', 'zed', 'a'), 0), 'channel'), ('ann', (0, ('put', 'back', 'a'), 0), 'channel'),
                ('ann', (0, ('take', 'out', 'a'), 0), 'channel'), ('bob', (0, ('put', 'out', 'a'), 0), 'channel'),
                ('ann', (0, ('put', 'out', 'hi'), 1), 'twice'), ('ann', (1, ('take', 'back', 'ok'), 2), 'twice'), ('ann', (0, ('put', 'out', 'hi'), 2), None),
                ('ann', (1, ('put', 'out', 'hi'), 1), None), ('ann', (0, ('do', 'out'), 0), None), ('bob', (0, ('put', 'out', 'hi'), 1), 'channel'),
                ('ann', (9, ('take', 'back', 'new'), 10 ** 59), None)):
            self.check(ASK, (), ('arrow', party, arrow), reason)
        self.check(ASK, (NAP,), NAP, 'twice')
        self.check(ASK, (NAP,), ('arrow', 'bob', NAP[2]), None)

    def test_mark(self):
        self.check(ASK, (), ('mark', 'ann'), None)
        self.check(ASK, (('mark', 'ann'),), ('mark', 'ann'), 'twice')
        self.check(ASK, (('mark', 'ann'),), ('mark', 'bob'), None)

    def test_full_comes_behind_shape_alone(self):
        naps = (NAP,) + single(('ann', 2)) * 39
        self.check(ASK, naps[:39], NAP, 'twice')
        self.check(ASK, naps[:39], ('did', (('ann', 2),)), None)
        for event in EVENTS + (NAP, ('did', (('zed', 0),)), ('form', 'zed', 'bag'), ('guard', 'off'), ('mark', 'a')):
            self.check(ASK, naps, event, 'full')
        for thing in NEVER + (('did', ()), ('mark', 'Half')):
            self.check(ASK, naps, thing, 'shape')


class MethodTests(unittest.TestCase):
    def test_each_method_is_its_watch_event(self):
        arrow = (0, ('do', 'nap'), 1)
        for name, args, event in (
                ('did', (('ann', 0),), ('did', (('ann', 0),))), ('did', (('ann', 0), ('bob', 0)), ('did', (('ann', 0), ('bob', 0)))), ('did', (), ('did', ())),
                ('did', (None,), ('did', (None,))), ('did', (('ann', 0),) * 3, ('did', (('ann', 0),) * 3)), ('set_form', ('out', 'bag'), ('form', 'out', 'bag')),
                ('set_form', (None, []), ('form', None, [])), ('set_guard', ('on',), ('guard', 'on')), ('set_guard', (True,), ('guard', True)),
                ('add_arrow', ('ann', arrow), ('arrow', 'ann', arrow)), ('add_arrow', ('ann', [1]), ('arrow', 'ann', [1])), ('mark', ('half',), ('mark', 'half')),
                ('mark', (('half',),), ('mark', ('half',))), ('go', (('mark', 'half'),), ('mark', 'half')), ('go', (None,), None),
                ('__call__', (('guard', 'on'),), ('guard', 'on')), ('__call__', ([],), [])):
            watch, other = Watch(ASK), Watch(ASK)
            told = outcome(getattr(watch, name), *args)
            self.assertEqual(told, outcome(other.go, event))
            self.assertEqual((watch.log(), watch.tally()), (other.log(), (1, 1)))
            if told[0] == 'returns':
                self.assertEqual(watch.log()[1:], (event,))
            else:
                self.assertEqual(told, refused(event, other.barred(event)))
        watch = Watch(ASK)
        self.assertEqual(watch(event=('did', (('ann', 0),))), 0)
        watch.set_form(form='bag', channel='back')
        watch.set_guard(word='on')
        watch.add_arrow(arrow=arrow, party='bob')
        watch.mark(name='a')
        watch.go(event=('mark', 'b'))
        self.assertEqual(len(watch), 6)

    def test_guard_now(self):
        watch = Watch(ASK)
        watch.guard_now = 'on'
        self.assertEqual((watch.guard_now, watch.log()[1:], watch.tally()), ('on', (('guard', 'on'),), (1, 1)))
        for thing, reason in (('on', 'same'), ('On', 'shape'), (None, 'shape'), (True, 'shape'), (['on'], 'shape')):
            with self.assertRaises(InvalidEvent) as told:
                watch.guard_now = thing
            self.assertEqual((told.exception.event, told.exception.reason), (('guard', thing), reason))
        self.assertEqual((watch.guard_now, watch.tally()), ('on', (6, 6)))

    def test_party(self):
        watch = Watch(ROUND)
        watch.do_all(*single(('ann', 0), ('ann', 1), ('cid', 0)))
        self.assertEqual([watch['ann'], watch['bob'], watch['cid']], [2, 0, 1])
        for thing in THINGS + ('zed', 'x', ('ann',), ['ann'], watch, 0):
            if thing != 'ann':
                self.assertIs(thing in watch, False)
                with self.assertRaises(NotUsable) as told:
                    _ = watch[thing]
                self.assertEqual((told.exception.word, told.exception.at), ('party', -1))
        self.assertEqual(['ann' in watch, 'bob' in watch, 'cid' in watch], [True, True, True])
        self.assertEqual((list(watch), list(watch), list(Watch(EMPTY))), (['ann', 'bob', 'cid'], ['ann', 'bob', 'cid'], []))

    def test_equal(self):
        watch, other = Watch(BOTH), Watch(BOTH)
        self.assertTrue(watch == other and not watch != other)
        watch.did(('ann', 0))
        self.assertFalse(watch == other)
        other.mark('a')
        self.assertFalse(watch == other)
        other.undo()
        other.did(('ann', 0))
        self.assertTrue(watch == other)
        self.assertNotEqual(watch.tally(), other.tally())
        # Equal programs, places and letters do not do: the logs count.
        self.assertFalse(Watch(ASK) == Watch(ASK, guard='on'))
        self.assertFalse(Watch(ASK) == Watch(BOTH))
        changed, unchanged = Watch(ASK, guard='off'), Watch(ASK, guard='on')
        changed.guard_now = 'on'
        self.assertEqual(changed.guard_now, unchanged.guard_now)
        self.assertFalse(changed == unchanged)
        for thing in THINGS + (watch.log(), BOTH, object()):
            self.assertIs(watch == thing, False)
            self.assertIs(thing == watch, False)

    def test_undo(self):
        watch = Watch(ROUND)
        events = single(*TURN[:3]) + (('mark', 'half'), ('guard', 'on'), ('form', 'z', 'bag'), ('arrow', 'bob', (0, ('do', 'nap'), 5)))
        shots = []
        for event in events:
            shots.append(seen(watch))
            watch.go(event)
        for event in events[::-1]:
            self.assertEqual(kinds_in(watch.undo()), kinds_in(event))
            self.assertEqual(seen(watch), shots.pop())
        self.assertEqual(watch, Watch(ROUND))
        for _ in range(2):
            self.assertEqual(outcome(watch.undo), raised('NothingToUndo', steps=0))
        self.assertEqual(watch.tally(), (16, 16))
        # And on again: a mark that was taken back can be set again.
        self.assertEqual(outcome(watch.letters_since, 'half'), unusable('name'))
        self.assertEqual(watch.do_all(*events), 7)
        self.assertEqual(watch.letters_since('half'), ())
        with self.assertRaises(NothingToUndo):
            Watch(EMPTY).undo()

    def test_undo_of_a_full_watch(self):
        watch = Watch(ASK)
        watch.do_all(NAP, *single(('ann', 2)) * 39)
        self.assertEqual((len(watch), watch.barred(('guard', 'on'))), (40, 'full'))
        self.assertEqual(watch.steps_now, ((('ann', 0),), (('ann', 2),)))
        self.assertEqual(watch.undo(), ('did', (('ann', 2),)))
        watch.guard_now = 'on'
        self.assertEqual((len(watch), watch.guard_now), (40, 'on'))

    def test_steps_and_crossings_of_a_full_watch(self):
        watch = Watch(BOTH)
        watch.do_all(*single(*CROSS[:3]), ('arrow', 'ann', (2, ('do', 'nap'), 2)), *single(('ann', 2)) * 36)
        self.assertEqual(len(watch), 40)
        self.assertEqual((watch.steps_now, watch.crossings_now), (((('ann', 2),), (('bob', 1),)), (('bob', 1),)))

    def test_tried(self):
        watch = Watch(BOTH)
        watch.did(('ann', 0))
        before = seen(watch)
        for events in ((), single(('bob', 0)), single(('bob', 0), ('ann', 1), ('bob', 1)), (('form', 'back', 'bag'), NAP, ('mark', 'a'), ('guard', 'on'))):
            other = Watch(BOTH)
            other.do_all(*single(('ann', 0)), *events)
            told = watch.tried(*events)
            self.assertEqual(kinds_in(told), kinds_in((other.program_now, other.places_now, other.lying_now)))
            self.assertEqual((seen(watch), watch.tally()), (before, (1, 1)))
        for events, event, reason in (((None,), None, 'shape'), (single(('bob', 0), ('bob', 0)), single(('bob', 0))[0], 'place'),
                                      ((('mark', 'a'), ('mark', 'b'), ('mark', 'a'), None), ('mark', 'a'), 'twice'),
                                      ((('guard', 'on'), *single(('bob', 0), ('ann', 1), ('bob', 1))), single(('bob', 1))[0], 'cross')):
            self.assertEqual(outcome(watch.tried, *events), refused(event, reason))
            self.assertEqual((seen(watch), watch.tally()), (before, (1, 1)))

    def test_trials_over_the_most_watch_events(self):
        watch = Watch(ASK)
        watch.do_all(NAP, *single(('ann', 2)) * 30)
        nap = single(('ann', 2))[0]
        self.assertEqual(watch.tried(*[nap] * 9)[1], (0, 0))
        self.assertEqual(outcome(watch.tried, *[nap] * 10), refused(nap, 'full'))
        self.assertEqual(outcome(watch.tried, *[nap] * 9, None), refused(None, 'shape'))
        self.assertEqual(outcome(watch.tried, *[nap] * 9, ('mark', 'a'), None), refused(('mark', 'a'), 'full'))
        self.assertEqual(outcome(watch.do_all, *[nap] * 10), refused(nap, 'full'))
        self.assertEqual(len(watch), 31)
        self.assertEqual(outcome(watch.do_all, *[nap] * 10, keep=True), refused(nap, 'full'))
        self.assertEqual(len(watch), 40)

    def test_do_all(self):
        events = single(*CROSS[:3])
        for keep in (True, False):
            watch = Watch(BOTH)
            self.assertEqual(outcome(watch.do_all, *events, keep=keep), returned(3))
            self.assertEqual((watch.log()[1:], watch.tally()), (events, (1, 1)))
            self.assertEqual(outcome(watch.do_all, keep=keep), returned(0))
            for wrong, reason in ((None, 'shape'), (('mark', 'a'), 'twice'), (events[0], 'place')):
                for ahead in ((('mark', 'a'),), (('mark', 'a'), ('guard', 'on'))):
                    watch = Watch(BOTH)
                    watch.do_all(*events)
                    self.assertEqual(outcome(watch.do_all, *ahead, wrong, ('mark', 'b'), None, keep=keep), refused(wrong, reason))
                    self.assertEqual(watch.log()[1:], events + ahead if keep else events)
                    self.assertEqual(watch.tally(), (2, 2))
        watch = Watch(BOTH)
        self.assertEqual(outcome(watch.do_all, ('mark', 'a'), ('mark', 'a')), refused(('mark', 'a'), 'twice'))
        self.assertEqual((len(watch), watch.tally()), (0, (1, 1)))
        self.assertIs(watch.barred(('mark', 'a')), None)

    def test_tally(self):
        watch = Watch(ASK)
        count = 0
        for name, args in (('did', (('ann', 0),)), ('did', ()), ('set_form', ('out', 'bag')), ('set_guard', ('on',)), ('add_arrow', (1, 2)), ('mark', ('a',)),
                           ('mark', ('a',)), ('go', (None,)), ('__call__', (('mark', 'b'),)), ('__call__', (None,)), ('undo', ()), ('do_all', ()),
                           ('do_all', (('mark', 'c'), ('mark', 'd'))), ('do_all', (None,)), ('undo', ()), ('undo', ())):
            outcome(getattr(watch, name), *args)
            count += 1
            self.assertEqual(outcome(watch.tally), returned((count, count)))

    def test_marks(self):
        watch = Watch(TWO)
        watch.mark('a')
        watch.did(('ann', 0))
        watch.mark('b')
        watch.did(('ann', 1))
        self.assertEqual([watch.letters_since(name) for name in 'ab'], [(0, 1), (1,)])
        self.assertEqual([watch.is_sure_since(name) for name in 'ab'], [True, False])
        watch.did(('bob', 0))
        self.assertEqual([watch.is_sure_since(name) for name in 'ab'], [True, True])
        watch.did(('bob', 1))
        watch.mark('c')
        self.assertEqual([watch.letters_since(name) for name in 'abc'], [(0, 1), (1,), ()])
        for function in (watch.letters_since, watch.is_sure_since):
            for thing in THINGS + ('d', 'ann', ('a',), ['a']):
                self.assertEqual(outcome(function, thing), unusable('name'), thing)
        self.assertEqual((watch.letters_since(name='b'), watch.is_sure_since(name='b')), ((1,), True))

    def test_table(self):
        names = ('abcdefgh', 'zyxwvuts')
        program = ((('anne', (), ((0, ('put', 'abcdefgh', 'zyxwvuts'), 0), (0, ('put', 'c', 'l'), 0))), ('bob', (), ())),
                   (('abcdefgh', 'anne', 'bob', 'bag'), ('c', 'anne', 'bob', 'queue')))
        watch = Watch(program)
        watch.do_all(*single(('anne', 0), ('anne', 1), ('anne', 0)))
        self.assertEqual(watch.table(), [f'  0 {names[0]} {names[1]} anne 1,2', '  1 c        l        anne 2', f'  2 {names[0]} {names[1]} anne -'])
        self.assertIs(type(watch.table()), list)
        watch.table().append('x')
        self.assertEqual(len(watch.table()), 3)

    def test_str(self):
        watch = Watch(ASK)
        watch.do_all(('did', (('ann', 0),)), ('form', 'back', 'bag'), ('guard', 'on'), NAP, ('arrow', 'bob', (3, ('put', 'back', 'ok'), 4)), ('mark', 'a'))
        self.assertEqual(str(watch), 'did ann 0 / form back bag / guard on / arrow ann 0 do nap 0 / arrow bob 3 put back ok 4 / mark a')


class ConsequenceTests(unittest.TestCase):
    def test_what_is_asked_changes_and_counts_nothing(self):
        random = Random(457)
        for program in (BOTH, ROUND, MIXED_CALLS, LOOPS, EMPTY, BARE):
            watch, other = Watch(program), Watch(program)
            for _ in range(12):
                event = watchmodel.random_event(random, watchmodel.followed(program, 'off', watch.log()[1:]))
                outcome(watch.go, event)
                ask_all(watch)
                outcome(other.go, event)
                self.assertEqual(seen(watch), seen(other))
                self.assertEqual(watch.tally(), other.tally())

    def test_no_ring_while_guarded(self):
        random = Random(461)
        for program in [BOTH, ROUND, LOOPS, MIXED, MIXED_BAGS] * 3 + watchmodel.random_programs(random, 30):
            watch = Watch(program)
            while len(watch) < 8 and watch.ring_now is None and watch.steps_now:
                watch.did(*random.choice(watch.steps_now))
            if watch.ring_now is not None:
                watch.undo()
            watch.guard_now = 'on'
            for _ in range(60):
                event = watchmodel.random_event(random, watchmodel.followed(program, 'off', watch.log()[1:]))
                if event[0] != 'guard':
                    outcome(watch.go, event)
                self.assertIs(watch.ring_now, None)

    def test_programs_that_are_as_calls_have_no_crossings(self):
        random = Random(463)
        for program in AS_CALLS + standmodel.finite_programs(random, 30):
            if is_as_calls(program):
                watch = Watch(program)
                while len(watch) < 30 and watch.steps_now:
                    watch.did(*random.choice(watch.steps_now))
                    self.assertEqual((watch.crossings_now, watch.ring_now), ((), None))

    def test_programs_that_are_not_have_them(self):
        for program, made in ((BOTH, CROSS), (ROUND, TURN)):
            watch = Watch(program)
            watch.do_all(*single(*made[:-1]))
            self.assertEqual(watch.crossings_now, (made[-1],))

    def test_what_cannot_matter_any_more(self):
        """[70]: watches with equal programs, places and letters that lie, up to numbers, go on alike."""
        random = Random(467)
        pairs = 0
        for program in (BOTH, LOOPS, ROUND, TWO, ROUND_CALLED, TWO_BAG, TWO_CALLED, BOTH_CALLED):
            watches = {}
            for _ in range(120):
                watch = Watch(program)
                for _ in range(random.randint(0, 9)):
                    if watch.steps_now:
                        watch.did(*random.choice(watch.steps_now))
                watches.setdefault(renumbered(watch), []).append(watch)
            for group in watches.values():
                for one, other in zip(group[::2], group[1::2]):
                    pairs += one != other
                    for _ in range(6):
                        self.assertEqual((one.crossings_now, one.steps_now), (other.crossings_now, other.steps_now))
                        if one.steps_now:
                            step = random.choice(one.steps_now)
                            one.did(*step)
                            other.did(*step)
                        self.assertEqual(renumbered(one), renumbered(other))
        self.assertGreater(pairs, 50)

    def test_values_of_a_watch_belong_to_the_caller(self):
        watch = Watch(BOTH)
        watch.do_all(*single(*CROSS[:2]))
        watch.mark('a')
        for told in (watch.lying_now, watch.steps_now, watch.crossings_now, watch.places_now, watch.log(), watch.tally(), watch.letters_since('a'),
                     watch.tried(), watch.undo()):
            self.assertIs(type(told), tuple)


def renumbered(watch):
    """The program, the places and the letters that lie, with these numbered anew."""
    numbers = {row[0]: k for k, row in enumerate(watch.lying_now)}
    rows = tuple((numbers[m], channel, letter, touched, tuple(numbers[n] for n in behind)) for m, channel, letter, touched, behind in watch.lying_now)
    return (watch.program_now, watch.places_now, rows)


if __name__ == '__main__':
    unittest.main()
