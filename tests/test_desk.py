"""[74] to [76]: a desk."""

import unittest
from random import Random

from ascalls.desk import Desk
from ascalls.errors import CallsError
from ascalls.eventtexts import event_line, log_lines
from ascalls.programtexts import program_text
from ascalls.watches import Watch
from tests import textmodel, watchmodel
from tests.samples import ASK, ASK_CALLED, BARE, BOTH, EMPTY, PROGRAMS, ROUND, outcome, paper, raised, returned, unusable
from tests.test_eventtexts import LINES
from tests.test_letters import CROSS
from tests.test_watches import EVENTS, LOOPS, NAP, refused, single

QUESTIONS = ('undo', 'events', 'log', 'guard', 'ring', 'places', 'lying', 'crossings', 'steps', 'table', 'program')
ROWS = QUESTIONS + ('place ann', 'place zed', 'since a', 'sure a', 'since zed', 'sure zed', 'bars guard on', 'bars did ann 0', 'bars mark a')
WRONG = ('', ' ', '\n', 'Undo', 'undo ', ' undo', 'undo\n', 'undo 1', 'events\nlog', 'place', 'place ', 'place Ann', 'place ann bob', 'place ann ', 'place  ann',
         'place 0', 'since', 'since Half', 'since a b', 'sure', 'sure ', 'sure abcdefghi', 'bars', 'bars ', 'bars undo', 'bars log', 'bars bars mark a',
         'bars place ann', 'bars did', 'bars mark a ', 'bars\nmark a', 'bars mark a\n', 'bar mark a', 'did', 'did ann', 'did ann 0 bob', 'did ann 0\ndid ann 0',
         'mark', 'mark a\n', 'guards', 'guard in', 'guard ', 'form out', 'arrow ann 0 do nap', 'watch', 'watch on', 'watch on 1', 'watch on x', 'watch on 00',
         'watch on 0\n', 'watch on 0\nmark a', 'watch on 0\nparty ann -', 'watch on 1\nparty ann -\ndid ann 0', 'watch on 1\n', 'watch on 2\nparty ann -',
         '\nwatch on 0', 'watch on 0 ', 'watch On 0', 'program ', 'steps?', 'tally', 'len', '-', 'ok', 'party ann -', 'channel x a b bag', 'crossing')


def opening(program, guard='off'):
    """The row that gives a desk a new watch."""
    return '\n'.join(log_lines((('watch', program, guard),)))


def at_desk(program, guard='off', events=()):
    """A desk with a watch after these watch events."""
    desk = Desk()
    for row in [opening(program, guard)] + [event_line(event) for event in events]:
        desk.say(row)
    return desk


def answer_of(watch, row):
    """What a desk with this watch has to answer to a row that is possible; the watch changes as it does."""
    word, _, rest = row.partition(' ')
    told = textmodel.event_of(row)
    if isinstance(told, tuple):
        return texts([watch.go(told)])
    if word == 'bars':
        return texts([watch.barred(textmodel.event_of(rest))])
    if rest:
        return {'place': lambda: str(watch[rest]), 'since': lambda: texts(watch.letters_since(rest)),
                'sure': lambda: 'yes' if watch.is_sure_since(rest) else 'no'}[word]()
    return {
        'undo': lambda: event_line(watch.undo()), 'events': lambda: str(len(watch)), 'log': lambda: str(watch), 'guard': lambda: watch.guard_now,
        'ring': lambda: texts(watch.ring_now or ()), 'places': lambda: texts(f'{name}@{watch[name]}' for name in watch),
        'lying': lambda: texts(row[0] for row in watch.lying_now), 'crossings': lambda: texts(f'{name}@{k}' for name, k in watch.crossings_now),
        'steps': lambda: texts('+'.join(f'{name}@{k}' for name, k in step) for step in watch.steps_now),
        'table': lambda: ' / '.join(watch.table()) or '-', 'program': lambda: ' / '.join(program_text(watch.program_now).split('\n')) or '-',
    }[word]()


def texts(things):
    """Several things with single spaces between, or -."""
    return ' '.join(str(thing) for thing in things if thing is not None) or '-'


class DeskTests(unittest.TestCase):
    def test_example(self):
        desk = Desk()
        told = [desk.say('watch on 2\nparty ann 0\narrow ann 0 do nap 0'), desk.say('steps'), desk.say('did ann 0'), desk.say('log')]
        self.assertEqual(told, ['ok', 'ann@0', '-', 'did ann 0'])

    def test_before_the_first_watch(self):
        desk = Desk()
        self.assertEqual(desk.tally(), (0, 0))
        rows = ROWS + WRONG + tuple(line for line, _ in LINES)
        for k, row in enumerate(rows):
            self.assertEqual(outcome(desk.say, row), raised('InvalidRow', row=row), row)
            self.assertEqual(outcome(desk.tally), returned((k + 1, k + 1)))
        self.assertEqual(outcome(desk.say, row='watch off 0'), returned('ok'))
        self.assertEqual(desk.say('events'), '0')

    def test_rows_that_are_none(self):
        desk = at_desk(ASK, 'on', single(('ann', 0)))
        for row in WRONG:
            self.assertEqual(outcome(desk.say, row), raised('InvalidRow', row=row), row)
        self.assertEqual(desk.say('log'), 'did ann 0')

    def test_random_rows(self):
        random = Random(499)
        desk = at_desk(ASK)
        for _ in range(3000):
            line = textmodel.random_line(random)
            row = random.choice((line, 'bars ' + line))
            told = outcome(desk.say, row)
            if isinstance(textmodel.event_of(line), tuple):
                self.assertNotEqual(told, raised('InvalidRow', row=row))
            elif row not in QUESTIONS:
                self.assertEqual(told, raised('InvalidRow', row=row), row)

    def test_new_watches(self):
        for program in PROGRAMS:
            for guard in ('on', 'off'):
                desk = at_desk(ROUND, 'off', single(('ann', 0)))
                self.assertEqual(outcome(desk.say, opening(program, guard)), returned('ok'))
                self.assertEqual([desk.say(row) for row in ('events', 'log', 'guard')], ['0', '-', guard])
                self.assertEqual(desk.say('program'), program_text(program).replace('\n', ' / ') or '-')

    def test_a_new_watch_that_is_refused(self):
        desk = at_desk(ASK, 'off', single(('ann', 0)))
        for row, word, at in (('watch on 1\nchannel x a b bag', 'sender', 0), ('watch on 2\nparty b -\nparty a -', 'party', 1),
                              ('watch on 1\nchannel x a a bag', 'ends', 0), ('watch on 3\nparty a -\narrow a 0 do b 0\narrow a 0 do b 0', 'twice', (0, 1)),
                              ('watch off 2\nparty a -\narrow a 0 put x y 0', 'owner', (0, 0))):
            self.assertEqual(outcome(desk.say, row), paper(word, at), row)
            self.assertEqual([desk.say('log'), desk.say('places')], ['did ann 0', 'ann@1 bob@0'])
            empty = Desk()
            self.assertEqual(outcome(empty.say, row), paper(word, at))
            self.assertEqual(outcome(empty.say, 'events'), raised('InvalidRow', row='events'))
            self.assertEqual(empty.tally(), (2, 2))

    def test_answers_to_watch_events(self):
        for line, event in LINES:
            watch, desk = Watch(ASK), at_desk(ASK)
            told = outcome(watch.go, event)
            self.assertEqual(outcome(desk.say, line), told if told[0] == 'raises' else returned(texts([watch.undo() and watch.go(event)])), line)
        desk = at_desk(BOTH)
        self.assertEqual([desk.say(row) for row in ('did ann 0', 'did bob 0', 'did ann 1', 'mark a', 'guard on', 'form back bag')], ['0', '1', '1', '-', '-', '-'])
        self.assertEqual(outcome(desk.say, 'did bob 1'), refused(('did', (('bob', 1),)), 'cross'))
        self.assertEqual(at_desk(ASK_CALLED).say('did ann 0 bob 0'), '0')

    def test_each_question(self):
        desk = at_desk(BOTH, 'off', single(*CROSS[:3]) + (('mark', 'half'),))
        for row, answer in (
                ('events', '4'), ('log', 'did ann 0 / did bob 0 / did ann 1 / mark half'), ('guard', 'off'), ('ring', '-'), ('places', 'ann@2 bob@1'),
                ('lying', '0'), ('crossings', 'bob@1'), ('steps', 'bob@1'), ('table', '  0 out      hi       ann,bob -'), ('place ann', '2'), ('place bob', '1'),
                ('since half', '-'), ('sure half', 'no'), ('bars did bob 1', '-'), ('bars did ann 0', 'place'), ('bars form out bag', 'busy'),
                ('bars mark half', 'twice'), ('bars guard off', 'same'), ('bars did zed 0', 'party'), ('bars did ann 9', 'arrow'),
                ('bars form zed bag', 'channel'), ('program', program_text(BOTH).replace('\n', ' / ')), ('events', '4'), ('did bob 1', '0'), ('undo', 'did bob 1'),
                ('guard on', '-'), ('bars did bob 1', 'cross'), ('steps', '-'), ('undo', 'guard on'), ('did bob 1', '0'), ('sure half', 'yes'), ('table', '-'),
                ('lying', '-'), ('crossings', '-'), ('undo', 'did bob 1'), ('undo', 'mark half'), ('undo', 'did ann 1'), ('lying', '0 1'),
                ('table', '  0 out      hi       ann - /   1 back     ok       bob -'), ('steps', 'ann@1 bob@1'), ('undo', 'did bob 0'), ('undo', 'did ann 0'),
                ('log', '-'), ('table', '-')):
            self.assertEqual(outcome(desk.say, row), returned(answer), row)
        self.assertEqual(outcome(desk.say, 'undo'), raised('NothingToUndo', steps=0))
        self.assertEqual(at_desk(ASK_CALLED).say('steps'), 'ann@0+bob@0')
        loops = at_desk(LOOPS, 'off', single(('ann', 0), ('ann', 1), ('bob', 0), ('ann', 2)) + (('mark', 'half'), *single(('ann', 0), ('ann', 1))))
        for row, answer in (('crossings', 'bob@2 bob@3'), ('lying', '0 1 3 4'), ('since half', '3 4'), ('sure half', 'no'), ('places', 'ann@0 bob@0'),
                            ('steps', 'ann@0 ann@1 bob@0 bob@1 bob@2 bob@3')):
            self.assertEqual(outcome(loops.say, row), returned(answer), row)
        ring = at_desk(BOTH, 'off', single(*CROSS)).say('ring')
        self.assertIn(ring, ('0 1', '1 0'))

    def test_without_anything(self):
        desk = at_desk(EMPTY)
        for row, answer in (('places', '-'), ('program', '-'), ('steps', '-'), ('ring', '-'), ('table', '-'), ('events', '0'), ('guard', 'off')):
            self.assertEqual(outcome(desk.say, row), returned(answer), row)
        self.assertEqual(at_desk(BARE).say('places'), 'a@0 abcdefgh@0')

    def test_errors_of_the_watch(self):
        desk = at_desk(ASK, 'off', (('mark', 'a'),))
        for row in ('place zed', 'place out', 'place a'):
            self.assertEqual(outcome(desk.say, row), unusable('party'))
        for row in ('since zed', 'sure zed', 'since ann', 'sure b'):
            self.assertEqual(outcome(desk.say, row), unusable('name'))
        self.assertEqual(outcome(desk.say, 'did zed 0'), refused(('did', (('zed', 0),)), 'party'))
        full = at_desk(ASK, 'off', (NAP, *single(('ann', 2)) * 39))
        self.assertEqual(outcome(full.say, 'mark a'), refused(('mark', 'a'), 'full'))
        self.assertEqual([full.say('bars mark a'), full.say('events')], ['full', '40'])

    def test_tally(self):
        desk = Desk()
        for k, row in enumerate(('events', 'watch on 0', 'events', 'x', 'mark a', 'mark a', 'watch on 1\nparty a -', 'undo', 'undo', ''), 1):
            outcome(desk.say, row)
            self.assertEqual(desk.tally(), (k, k))

    def test_desks_and_watches_go_on_alike(self):
        random = Random(503)
        for program in [LOOPS, BOTH, ROUND, EMPTY, ASK_CALLED] + watchmodel.random_programs(random, 25):
            guard = random.choice(('on', 'off'))
            watch, desk = Watch(program, guard=guard), at_desk(program, guard)
            for _ in range(50):
                event = watchmodel.random_event(random, watchmodel.followed(program, guard, watch.log()[1:]))
                rows = [event_line(event), 'bars ' + event_line(event)] + list(ROWS)
                row = random.choice((rows[0], rows[0], rows[0], random.choice(rows)))
                before = watch.log()
                try:
                    wanted = returned(answer_of(watch, row))
                except CallsError as error:
                    wanted = raised(type(error).__name__, **vars(error))
                    self.assertEqual(watch.log(), before)
                self.assertEqual(outcome(desk.say, row), wanted, row)
                self.assertEqual(desk.say('log'), str(watch))

    def test_events_of_all_kinds(self):
        for event in EVENTS:
            desk, watch = at_desk(ASK), Watch(ASK)
            self.assertEqual(desk.say('bars ' + event_line(event)), texts([watch.barred(event)]))
            self.assertEqual(desk.say('events'), '0')


if __name__ == '__main__':
    unittest.main()
