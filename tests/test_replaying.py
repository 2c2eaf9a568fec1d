"""[9] (C8), [71]: logs, and watches that are replayed from them."""

import unittest
from random import Random

from ascalls.eventreadings import read_log
from ascalls.eventtexts import event_line, log_lines
from ascalls.kinds import is_program
from ascalls.replaying import is_log, replayed
from ascalls.watches import Watch
from tests import watchmodel
from tests.samples import (ASK, BOTH, EMPTY, NEVER, PROGRAMS, ROUND, SOMETIMES, TURN, kinds_in, mutants, outcome, raised, returned)
from tests.test_letters import CROSS
from tests.test_watches import EVENTS, LOOPS, NAP, refused, seen, single

THINGS = NEVER + SOMETIMES


class LogTests(unittest.TestCase):
    def test_log(self):
        watch = Watch(BOTH, guard='off')
        events = single(*CROSS[:3]) + (('guard', 'on'), ('mark', 'a'), ('form', 'back', 'bag'), ('arrow', 'ann', (2, ('do', 'nap'), 2)))
        for k, event in enumerate(events):
            self.assertEqual(outcome(watch.log), returned((('watch', BOTH, 'off'), *events[:k])))
            watch.go(event)
        # The program and the guard are those of the beginning.
        self.assertEqual(outcome(watch.log), returned((('watch', BOTH, 'off'), *events)))
        self.assertEqual(str(watch), ' / '.join(event_line(event) for event in events))
        while len(watch):
            watch.undo()
        self.assertEqual((watch.log(), str(watch)), ((('watch', BOTH, 'off'),), '-'))

    def test_refused_and_undone_events_are_not_in_it(self):
        watch = Watch(ASK)
        outcome(watch.did, ('zed', 0))
        watch.mark('a')
        watch.undo()
        watch.mark('b')
        watch.tried(('mark', 'c'))
        self.assertEqual(watch.log()[1:], (('mark', 'b'),))


class IsLogTests(unittest.TestCase):
    def check(self, thing):
        beginning = isinstance(thing, tuple) and len(thing) > 0 and isinstance(thing[0], tuple) and len(thing[0]) == 3
        wanted = beginning and thing[0][0] == 'watch' and is_program(thing[0][1]) and type(thing[0][2]) is str and thing[0][2] in ('on', 'off') \
            and all(watchmodel.by_form(event) for event in thing[1:])
        self.assertEqual(outcome(is_log, thing), returned(wanted), thing)
        return wanted

    def test_right(self):
        for program in PROGRAMS:
            for guard in ('on', 'off'):
                for events in ((), EVENTS, EVENTS * 10, single(('zed', 99)), (('form', 'zed', 'bag'),)):
                    self.assertIs(self.check((('watch', program, guard), *events)), True)

    def test_wrong(self):
        first = ('watch', ASK, 'on')
        for thing in THINGS + ((), first, [first], (list(first),), (('watch', ASK),), (('watch', ASK, 'on', 'on'),), (('Watch', ASK, 'on'),),
                               (('watch', list(ASK), 'on'),),
                               (('watch', (ASK[0], ()), 'on'),), (('watch', ASK, 'On'),), (('watch', ASK, True),), (('watch', ASK, None),),
                               (('watch', ASK, ['on']),), (first, None), (first, first), (first, ('did', ())), (first, ('mark', 'a'), ['mark', 'a']),
                               (EVENTS[0], first), EVENTS, (first, 'mark a'), (first, ()), (('watch', 'on', ASK),)):
            self.assertIs(self.check(thing), False)

    def test_one_place_changed(self):
        for log in ((('watch', EMPTY, 'on'),), (('watch', ASK, 'off'), *EVENTS)):
            for _, changed in mutants(log, THINGS):
                self.check(changed)
        self.assertIs(is_log(thing=(('watch', EMPTY, 'on'),)), True)


class ReplayedTests(unittest.TestCase):
    def check(self, watch):
        before = kinds_in(watch.log())
        again = replayed(watch.log())
        self.assertTrue(again == watch)
        self.assertIsNot(again, watch)
        self.assertIs(type(again), Watch)
        self.assertEqual(again.tally(), (0, 0))
        self.assertEqual(kinds_in(seen(again)), kinds_in(seen(watch)))
        self.assertEqual(again.ring_now is None, watch.ring_now is None)
        self.assertEqual(kinds_in(watch.log()), before)
        self.assertTrue(replayed(read_log(log_lines(watch.log()))) == watch)
        again.mark('zzz')
        self.assertNotEqual(again, watch)
        self.assertEqual((kinds_in(watch.log()), again.tally()), (before, (1, 1)))

    def test_random_watches(self):
        random = Random(491)
        for program in [LOOPS, BOTH, ROUND, EMPTY] + watchmodel.random_programs(random, 30):
            for guard in ('on', 'off'):
                watch = Watch(program, guard=guard)
                for _ in range(random.randint(0, 35)):
                    outcome(watch.go, watchmodel.random_event(random, watchmodel.followed(program, guard, watch.log()[1:])))
                    if random.random() < 0.1:
                        outcome(watch.undo)
                self.check(watch)

    def test_a_full_watch(self):
        log = (('watch', ASK, 'off'), NAP, *single(('ann', 2)) * 39)
        self.assertEqual(len(replayed(log)), 40)
        event = ('mark', 'a')
        self.assertEqual(outcome(replayed, log + (event,)), refused(event, 'full'))
        self.assertEqual(outcome(replayed, log + (event, ('did', (('zed', 0),)))), refused(event, 'full'))

    def test_the_first_error(self):
        first = ('watch', BOTH, 'off')
        for events, event, reason in (
                (single(('zed', 0)), single(('zed', 0))[0], 'party'), (single(('ann', 0), ('ann', 0), ('zed', 0)), single(('ann', 0))[0], 'place'),
                ((('guard', 'off'),), ('guard', 'off'), 'same'), ((('guard', 'on'), *single(*CROSS)), single(CROSS[3])[0], 'cross'),
                ((('mark', 'a'), ('mark', 'a')), ('mark', 'a'), 'twice')):
            self.assertEqual(outcome(replayed, (first, *events)), refused(event, reason))
        self.assertEqual(outcome(replayed, (('watch', BOTH, 'on'), ('guard', 'on'))), refused(('guard', 'on'), 'same'))
        self.assertEqual(replayed(log=(('watch', ROUND, 'on'), *single(*TURN[:5]))).crossings_now, (TURN[5],))

    def test_errors_are_those_of_the_watch(self):
        self.assertEqual(outcome(replayed, (('watch', ASK, 'on'), ('form', 'zed', 'bag'))),
                         raised('InvalidEvent', event=('form', 'zed', 'bag'), reason='channel'))


if __name__ == '__main__':
    unittest.main()
