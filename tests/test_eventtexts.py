"""[72], [73]: watch events and logs as lines, written and read."""

import unittest
from random import Random

from ascalls.eventreadings import read_event, read_log
from ascalls.eventtexts import event_line, log_lines
from ascalls.kinds import is_watch_event
from ascalls.programtexts import program_text
from ascalls.watches import Watch
from tests import textmodel
from tests.samples import ASK, BARE, EMPTY, PROGRAMS, outcome, raised, returned
from tests.test_programtexts import ASK_LINES
from tests.test_watches import EVENTS, single

LONG = '9' * 60
LINES = (
    ('did ann 0', ('did', (('ann', 0),))), ('did ann 0 bob 17', ('did', (('ann', 0), ('bob', 17)))), (f'did ann {LONG}', ('did', (('ann', int(LONG)),))),
    ('form out queue', ('form', 'out', 'queue')), ('form out bag', ('form', 'out', 'bag')), ('form form call', ('form', 'form', 'call')),
    ('guard on', ('guard', 'on')), ('guard off', ('guard', 'off')), ('mark half', ('mark', 'half')), ('mark mark', ('mark', 'mark')),
    ('arrow ann 0 put out hi 1', ('arrow', 'ann', (0, ('put', 'out', 'hi'), 1))), ('arrow bob 2 do nap 0', ('arrow', 'bob', (2, ('do', 'nap'), 0))),
    (f'arrow bob 10 take take take {LONG}', ('arrow', 'bob', (10, ('take', 'take', 'take'), int(LONG)))),
    ('arrow do 0 do do 0', ('arrow', 'do', (0, ('do', 'do'), 0))),
)


def wrong(line, field):
    """The outcome of InvalidText."""
    return raised('InvalidText', line=line, field=field)


class EventTests(unittest.TestCase):
    def test_lines(self):
        for line, event in LINES:
            self.assertEqual(outcome(event_line, event), returned(line))
            self.assertEqual(outcome(read_event, line), returned(event))
        for event in EVENTS:
            self.assertEqual(read_event(text=event_line(event=event)), event)

    def test_example(self):
        self.assertEqual(outcome(read_event, 'did ann 0 bob'), wrong(0, 4))

    def test_wrong_lines(self):
        for line, field in (
                ('', 0), (' ', 0), ('Did ann 0', 0), ('undo', 0), ('watch on 0', 0), ('party ann -', 0), ('channel x a b bag', 0), (' did ann 0', 0),
                ('did\nann 0', 0), ('\n', 0), ('dids ann 0', 0), ('guardon', 0), ('did', 1), ('did ', 1), ('did  ann 0', 1), ('did Ann 0', 1),
                ('did 0 ann', 1), ('did ann', 2), ('did ann ', 2), ('did ann 00', 2), ('did ann 01', 2), ('did ann -1', 2), ('did ann +1', 2),
                (f'did ann {LONG}9', 2), ('did ann 0\n', 2), ('did ann a', 2), ('did ann 0 ', 3), ('did ann 0 1', 3), ('did ann 0 bob ', 4),
                ('did ann 0 bob x', 4), ('did ann 0 bob 1 ', 5), ('did ann 0 bob 1 cid', 5), ('did ann 0 bob 1 cid 2', 5), ('form', 1), ('form Out bag', 1),
                ('form out', 2), ('form out Bag', 2), ('form out bag ', 3), ('form out bags', 2), ('guard', 1), ('guard ', 1), ('guard On', 1),
                ('guard on on', 2), ('guard on\n', 1), ('mark', 1), ('mark Half', 1), ('mark abcdefghi', 1), ('mark half half', 2), ('mark half ', 2),
                ('arrow', 1), ('arrow ann', 2), ('arrow Ann 0 do nap 0', 1), ('arrow ann x do nap 0', 2), ('arrow ann 0', 3), ('arrow ann 0 nap', 3),
                ('arrow ann 0 do', 4), ('arrow ann 0 do nap', 5), ('arrow ann 0 do nap x', 5), ('arrow ann 0 do nap 0 0', 6), ('arrow ann 0 do Nap 0', 4),
                ('arrow ann 0 put', 4), ('arrow ann 0 put x', 5), ('arrow ann 0 put x 1', 5), ('arrow ann 0 put x hi', 6), ('arrow ann 0 put x hi 01', 6),
                ('arrow ann 0 take x hi 1 ', 7), ('arrow ann 0 take x hi 1\n', 6), ('arrow ann 0\ndo nap 0', 2)):
            self.assertEqual(outcome(read_event, line), wrong(0, field), line)
            self.assertEqual(textmodel.event_of(line), field, line)

    def test_random_lines(self):
        random = Random(479)
        kinds = {True: 0, False: 0}
        for _ in range(6000):
            line = textmodel.random_line(random)
            told = textmodel.event_of(line)
            kinds[isinstance(told, tuple)] += 1
            self.assertEqual(outcome(read_event, line), returned(told) if isinstance(told, tuple) else wrong(0, told), line)
            if isinstance(told, tuple):
                self.assertIs(is_watch_event(told), True)
                self.assertEqual(event_line(told), line)
        self.assertGreater(min(kinds.values()), 1000)


class LogTests(unittest.TestCase):
    def test_lines_of_logs(self):
        self.assertEqual(outcome(log_lines, (('watch', EMPTY, 'off'),)), returned(['watch off 0']))
        log = (('watch', ASK, 'on'), *EVENTS)
        self.assertEqual(outcome(log_lines, log), returned(['watch on 8', *ASK_LINES, *[event_line(event) for event in EVENTS]]))
        self.assertEqual(outcome(log_lines, log=(('watch', BARE, 'on'),)), returned(['watch on 3', *program_text(BARE).split('\n')]))

    def test_read_is_equal_to_written(self):
        for program in PROGRAMS:
            for guard in ('on', 'off'):
                for events in ((), EVENTS, EVENTS * 8, single(('zed', 99), ('ann', 0))):
                    log = (('watch', program, guard), *events)
                    self.assertEqual(outcome(read_log, log_lines(log)), returned(log))
        watch = Watch(ASK)
        watch.did(('ann', 0))
        self.assertEqual(read_log(lines=log_lines(watch.log())), watch.log())

    def test_programs_that_are_none(self):
        lines = ['watch on 4', 'channel z a a bag', 'channel b z y call', 'party b -', 'arrow b 0 take q q 7', 'did a 0']
        program = ((('b', (), ((0, ('take', 'q', 'q'), 7),)),), (('z', 'a', 'a', 'bag'), ('b', 'z', 'y', 'call')))
        self.assertEqual(outcome(read_log, lines), returned((('watch', program, 'on'), ('did', (('a', 0),)))))
        self.assertEqual(log_lines(read_log(lines)), lines)

    def test_wrong_logs(self):
        for lines, line, field in (
                ([], 0, 0), ([''], 0, 0), (['watch'], 0, 1), (['watch on'], 0, 2), (['watch On 0'], 0, 1), (['watch on 00'], 0, 2), (['watch on x'], 0, 2),
                (['watch on 0 0'], 0, 3), (['watch on 0 '], 0, 3), (['watch  0'], 0, 1), (['Watch on 0'], 0, 0), (['did ann 0'], 0, 0),
                (['watch on -'], 0, 2), (['watch on 1,2'], 0, 2), ([f'watch on {LONG}9'], 0, 2), (['watch on 0', ''], 1, 0), (['watch on 0', 'party ann -'], 1, 0), (['watch on 0', 'guard on', 'x'], 2, 0),
                # Lines of the first element are missing.
                (['watch on 1'], 1, 0), ([f'watch on {LONG}'], 1, 0), (['watch on 3', 'party ann -'], 2, 0), (['watch on 2', 'party ann -'], 2, 0),
                (['watch on 3', 'party ann -', 'arrow ann 0 do nap 0'], 3, 0),
                # A line that is there and is not possible comes before one that is missing.
                (['watch on 3', 'party ann x'], 1, 2), (['watch on 3', 'party ann -', 'guard on'], 2, 0), (['watch on 2', 'arrow ann 0 do nap 0'], 1, 0),
                (['watch on 2', 'party ann -', 'arrow bob 0 do nap 0'], 2, 1), (['watch on 2', 'party ann -', 'channel x a b bag'], 2, 0),
                # None of these lines is empty.
                (['watch on 1', ''], 1, 0), (['watch on 2', '', 'party ann -'], 1, 0), (['watch on 2', 'party ann -', ''], 2, 0),
                (['watch on 2', '', ''], 1, 0), (['watch on 1', '', 'guard on'], 1, 0),
                # Watch events.
                (['watch on 1', 'party ann -', ''], 2, 0), (['watch on 1', 'party ann -', 'did ann 0 bob'], 2, 4),
                (['watch on 1', 'party ann -', 'guard off', 'mark Half'], 3, 1), (['watch on 1', 'party ann -', 'watch on 0'], 2, 0),
                (['watch on 1', 'party ann -', 'arrow ann 0 do nap 0', 'arrow ann 0 do nap'], 3, 5)):
            self.assertEqual(outcome(read_log, lines), wrong(line, field), lines)
            self.assertEqual(textmodel.log_verdict(lines), (line, field), lines)

    def test_an_arrow_behind_the_program_is_a_watch_event(self):
        lines = ['watch off 1', 'party ann -', 'arrow zed 0 do nap 0']
        self.assertEqual(read_log(lines)[1:], (('arrow', 'zed', (0, ('do', 'nap'), 0)),))

    def test_random_logs(self):
        random = Random(487)
        told = {}
        parts = ['channel x ann bob bag', 'party ann -', 'party bob 0,3', 'arrow ann 0 do nap 0', 'arrow bob 0 take x hi 1', 'guard on', 'mark a', '',
                 'did ann 0', 'arrow ann 0 put x hi', 'party ann', 'channel x ann bob', 'party Bob -']
        for _ in range(4000):
            lines = [f'watch {random.choice(("on", "off"))} {random.randint(0, 4)}'] + [random.choice(parts) for _ in range(random.randint(0, 6))]
            if random.random() < 0.1:
                lines = lines[1:]
            verdict = textmodel.log_verdict(lines)
            result = outcome(read_log, lines)
            told[verdict is None] = told.get(verdict is None, 0) + 1
            if verdict is None:
                self.assertEqual(result[0], 'returns', lines)
                self.assertEqual(log_lines(read_log(lines)), lines)
            else:
                self.assertEqual(result, wrong(*verdict), lines)
        self.assertGreater(min(told.values()), 100)


if __name__ == '__main__':
    unittest.main()
