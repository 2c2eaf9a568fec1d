"""[19], [20]: programs as objects."""

import unittest

from ascalls import programchanges
from ascalls.errors import InvalidPaper, InvalidText, NotUsable
from ascalls.programchecker import lets_program
from ascalls.programclasses import Called, Mirrored, Program
from ascalls.programparts import arrows_from, places_of
from ascalls.programtexts import program_text
from tests.samples import (ANN, ASK, BARE, CHANNELS, EMPTY, MIXED, NEVER, PROGRAMS, ROUND, SOMETIMES, kinds_in, mutants,
                           outcome, paper, raised, returned, unusable)

BACK, OUT = CHANNELS
THINGS = NEVER + SOMETIMES
NAP = (5, ('do', 'nap'), 6)


def of(program):
    """The Program with this form."""
    return Program(program[0], program[1])


def family(program):
    """Programs of each class with this form."""
    mirrored = of(programchanges.mirrored(program))
    calls = [row[0] for row in program[1] if row[3] == 'call']
    return [of(program), Called(of(program), *calls), Mirrored(mirrored), Called(Mirrored(mirrored))]


def result_of(function, *args):
    """The outcome of a function, where a Program that it returns is told by its class and form."""
    try:
        made = function(*args)
    except ValueError as error:
        return ('raises', (type(error).__name__, dict(vars(error))))
    return ('returns', type(made), made.form)


class ProgramTests(unittest.TestCase):
    def test_examples(self):
        program = Program(ASK[0], CHANNELS)
        told = [program['ann'] == ANN, 'cid' in program, program('bob', 0), list(program.all_arrows())[3][0],
                Mirrored(Mirrored(program)) == program]
        self.assertEqual(told, [True, False, (0,), ('bob', 1), True])
        self.assertEqual(Called(program, 'out').channels[1], ('out', 'ann', 'bob', 'call'))
        self.assertEqual(Program.plain(('b', 'a')).parties, (('a', (0,), ()), ('b', (0,), ())))

    def test_made(self):
        self.assertEqual(Program().form, EMPTY)
        self.assertEqual(Program(()).form, EMPTY)
        self.assertEqual(Program(BARE[0]).form, (BARE[0], ()))
        self.assertEqual(Program(channels=CHANNELS, parties=ASK[0]).form, ASK)
        for program in PROGRAMS:
            made = of(program)
            self.assertEqual((made.parties, made.channels, made.form), (program[0], program[1], program))

    def test_errors_of_the_checker(self):
        for _, changed in mutants(ASK):
            if isinstance(changed, tuple) and len(changed) == 2:
                expected = outcome(lets_program, changed)
                if expected[0] == 'raises':
                    self.assertEqual(outcome(Program, changed[0], changed[1]), expected)
                else:
                    self.assertEqual(of(changed).form, changed)
        self.assertEqual(outcome(Program, []), paper('shape', -1))
        self.assertEqual(outcome(Program, (), []), paper('shape', -1))
        self.assertEqual(outcome(Program, ASK), paper('party', 0))
        self.assertEqual(outcome(Program, ASK[0]), paper('owner', (0, 0)))

    def test_item(self):
        for program in PROGRAMS:
            for made in family(program):
                for party in program[0]:
                    self.assertEqual(kinds_in(made[party[0]]), kinds_in(party))
        for thing in THINGS + ('cid', 'out', ['ann'], 0, -1):
            if thing != 'ann':
                for made in family(ASK):
                    self.assertEqual(outcome(made.__getitem__, thing), unusable('party'))

    def test_contains(self):
        for made in family(ASK):
            self.assertIs('ann' in made, True)
            self.assertIs('bob' in made, True)
            for thing in THINGS + ('cid', 'out', ['ann'], ANN, 0, made):
                if thing != 'ann':
                    self.assertIs(thing in made, False)
        self.assertFalse('ann' in Program())

    def test_len_and_iteration(self):
        for program in PROGRAMS:
            for made in family(program):
                self.assertEqual(len(made), len(program[0]))
                self.assertEqual(list(made), [party[0] for party in program[0]])
                self.assertEqual(list(made), sorted(made))
                self.assertEqual(list(iter(made)), list(made))

    def test_equal(self):
        for first in PROGRAMS:
            for second in PROGRAMS:
                for made in family(first):
                    for other in family(second):
                        self.assertIs(made == other, first == second)
                        self.assertIs(made != other, first != second)

    def test_equal_to_no_other_value(self):
        for made in family(ASK):
            for thing in THINGS + (ASK, ASK[0], str(made), list(ASK), {}):
                self.assertIs(made == thing, False)
                self.assertIs(thing == made, False)
                self.assertIs(made != thing, True)
        self.assertFalse(Program() == EMPTY)

    def test_text(self):
        for program in PROGRAMS:
            for made in family(program):
                self.assertEqual(str(made), program_text(program))

    def test_call(self):
        for program in PROGRAMS:
            for made in family(program):
                for party in program[0]:
                    for place in places_of(program, party[0]):
                        self.assertEqual(made(party[0], place), arrows_from(program, party[0], place))
        made = of(ASK)
        self.assertEqual(made(place=0, party='ann'), (0,))
        self.assertEqual(outcome(made.__call__, 'cid', None), unusable('party'))
        self.assertEqual(outcome(made.__call__, 'ann', True), unusable('place'))

    def test_plus(self):
        for made in family(ASK):
            for channel in (('a', 'ann', 'bob', 'bag'), ('z', 'bob', 'ann', 'call')) + THINGS + (BACK, ('a',), ('a', 'a', 'a', 'bag')):
                self.compare(lambda: made + channel, programchanges.with_channel, ASK, channel)

    def test_minus(self):
        for made in family(ASK):
            for channel in CHANNELS:
                self.compare(lambda: made - channel, programchanges.without_channel, ASK, channel[0])
            for thing in THINGS + ('out', list(OUT), OUT[:3], OUT[:3] + ('bag',), OUT + (0,), ('out',), CHANNELS):
                self.assertEqual(result_of(lambda: made - thing), unusable('channel'))

    def compare(self, function, other, *args):
        """The same as a function of programchanges, as a Program itself."""
        kind, told = outcome(other, *args)
        if kind == 'raises':
            self.assertEqual(result_of(function), (kind, told))
        else:
            self.assertEqual(result_of(function), ('returns', Program, other(*args)))

    def test_methods(self):
        rows = [('added', 'with_party', [(('cid', (), ()),), (('a', (), ()),), (ANN,), (None,), (('cid',),)]),
                ('dropped', 'without_party', [('ann',), ('bob',), ('cid',), (True,), ([],)]),
                ('extended', 'with_arrow', [('ann', NAP), ('bob', NAP), ('cid', NAP), ('ann', ANN[2][0]), ('ann', [])]),
                ('shortened', 'without_arrow', [('ann', 0), ('ann', 1), ('ann', 2), ('ann', True), ('cid', 0), ([], [])]),
                ('formed', 'with_form', [('out', 'bag'), ('out', 'queue'), ('out', 'heap'), ('cid', 'bag'), (1, 1)]),
                ('called', 'with_calls', [((),), (('out',),), (('back', 'out'),), (('out', 'back'),), ('out',), ([],)]),
                ('mirror', 'mirrored', [()])]
        for made in family(ASK):
            for method, function, cases in rows:
                for args in cases:
                    self.compare(lambda: getattr(made, method)(*args), getattr(programchanges, function), ASK, *args)
                self.assertEqual(made.form, ASK)

    def test_methods_by_name(self):
        made = of(ASK)
        self.assertEqual(made.added(party=('cid', (), ())), made.added(('cid', (), ())))
        self.assertEqual(made.dropped(party='ann'), made.dropped('ann'))
        self.assertEqual(made.extended(arrow=NAP, party='ann'), made.extended('ann', NAP))
        self.assertEqual(made.shortened(k=0, party='ann'), made.shortened('ann', 0))
        self.assertEqual(made.formed(form='bag', name='out'), made.formed('out', 'bag'))
        self.assertEqual(made.called(names=('out',)), made.called(('out',)))
        self.assertEqual(Program.parsed(text=''), Program())
        self.assertEqual(Program.plain(names=('a',)), Program((('a', (0,), ()),)))

    def test_all_arrows(self):
        for program in PROGRAMS:
            for made in family(program):
                found = list(made.all_arrows())
                self.assertEqual(found, [((party[0], k), arrow) for party in program[0] for k, arrow in enumerate(party[2])])
                self.assertEqual(found, sorted(found))
        rows = of(ASK).all_arrows()
        self.assertIs(iter(rows), rows)
        self.assertEqual(next(rows), (('ann', 0), ANN[2][0]))

    def test_parsed(self):
        for program in PROGRAMS:
            made = Program.parsed(program_text(program))
            self.assertIs(type(made), Program)
            self.assertEqual(kinds_in(made.form), kinds_in(program))
        self.assertEqual(outcome(Program.parsed, 'party a 0,0'), raised('InvalidText', line=0, field=2))
        self.assertEqual(outcome(Program.parsed, 'channel x a a bag\nparty a'), raised('InvalidText', line=1, field=2))
        self.assertEqual(outcome(Program.parsed, 'channel x a a bag\nparty a -'), paper('ends', 0))
        self.assertEqual(outcome(Program.parsed, 'party b -\nparty a -'), paper('party', 1))
        self.assertEqual(outcome(Program.parsed, 'party b -\narrow b 0 put x y 0'), paper('owner', (0, 0)))
        self.assertEqual(outcome(Program.parsed, 'channel x a b bag\nparty b -'), paper('sender', 0))

    def test_plain(self):
        self.assertEqual(Program.plain(()).form, EMPTY)
        self.assertEqual(Program.plain(('c', 'a', 'b')).form, (tuple((name, (0,), ()) for name in 'abc'), ()))
        self.assertIs(type(Program.plain(('a',))), Program)
        for names in NEVER + ('a', 0, ['a'], ('a', 'a'), ('b', 'a', 'b'), ('A',), ('a', None), (('a',),), ('a', ['b']), (True,)):
            self.assertEqual(outcome(Program.plain, names), unusable('names'), names)

    def test_a_program_never_changes(self):
        for made in family(MIXED):
            before = kinds_in(made.form)
            names = ['parties', 'channels', 'form'] + ['source'] * hasattr(made, 'source')
            for name in names:
                with self.assertRaises(AttributeError):
                    setattr(made, name, ())
            with self.assertRaises(TypeError):
                made['ann'] = ANN
            with self.assertRaises(TypeError):
                del made['ann']
            for action in (lambda: made + ('z', 'ann', 'bob', 'bag'), lambda: made - MIXED[1][0], lambda: made + None,
                           lambda: made - None, lambda: made.added(None), lambda: made.added(('zed', (), ())),
                           lambda: made.dropped('ann'), lambda: made.extended('ann', NAP), lambda: made.extended('ann', 0),
                           lambda: made.shortened('ann', 0), lambda: made.shortened('ann', 9), lambda: made.formed('q', 'bag'),
                           lambda: made.called(('q', 'r')), lambda: made.called(('r', 'q')), made.mirror,
                           lambda: list(made.all_arrows()), lambda: Called(made, 'q'), lambda: Called(made, 'n'),
                           lambda: Mirrored(made), lambda: made['a'], lambda: made('ann', 9), lambda: str(made)):
                try:
                    action()
                except (InvalidPaper, NotUsable):
                    pass
                self.assertEqual(kinds_in(made.form), before)
            kept = made
            made += ('z', 'ann', 'bob', 'bag')
            made -= MIXED[1][0]
            self.assertEqual(kinds_in(kept.form), before)
            self.assertEqual([row[0] for row in made.channels], ['r', 's', 'z'])

    def test_errors_may_be_caught_by_class(self):
        with self.assertRaises(InvalidText):
            Program.parsed('\n')
        with self.assertRaises(NotUsable):
            Program.plain(None)


class CalledTests(unittest.TestCase):
    def test_form_and_source(self):
        for program in (ASK, ROUND, MIXED):
            for source in family(program):
                for names in ((), ('x',), ('out',), ('q', 's'), ('s', 'q', 's'), ('out', 'back'), ('z', 'z')):
                    if all(name in [row[0] for row in program[1]] for name in names):
                        made = Called(source, *names)
                        self.assertIs(made.source, source)
                        wanted = programchanges.with_calls(program, tuple(sorted(set(names))))
                        self.assertEqual(kinds_in(made.form), kinds_in(wanted))
                        self.assertEqual(made, of(wanted))
                        self.assertIsInstance(made, Program)
        self.assertEqual(Called.__bases__, (Program,))

    def test_errors(self):
        source = of(ASK)
        for thing in THINGS + ('outs', ('out',), ['out'], OUT):
            self.assertEqual(outcome_of_called(source, thing), unusable('name', 0))
            self.assertEqual(outcome_of_called(source, 'out', 'out', thing, None), unusable('name', 2))
        self.assertEqual(outcome_of_called(Program(), 'a'), unusable('name', 0))

    def test_of_called(self):
        inner = Called(of(ASK), 'out')
        outer = Called(inner, 'back', 'out')
        self.assertIs(outer.source, inner)
        self.assertEqual([row[3] for row in outer.channels], ['call', 'call'])
        self.assertEqual([row[3] for row in inner.channels], ['queue', 'call'])
        self.assertEqual(Called(program=inner).form, inner.form)


class MirroredTests(unittest.TestCase):
    def test_form_and_source(self):
        for program in PROGRAMS:
            for source in family(program):
                made = Mirrored(source)
                self.assertIs(made.source, source)
                self.assertEqual(kinds_in(made.form), kinds_in(programchanges.mirrored(program)))
                self.assertEqual(made, source.mirror())
                self.assertIs(type(made.mirror()), Program)
                again = Mirrored(program=made)
                self.assertEqual(again, source)
                self.assertIs(again.source.source, source)
        self.assertEqual(Mirrored.__bases__, (Program,))

    def test_results_are_of_the_class_program(self):
        for made in (Mirrored(of(ASK)), Called(of(ASK), 'out')):
            for other in (made + ('a', 'ann', 'bob', 'bag'), made - made.channels[0], made.added(('cid', (), ())),
                          made.dropped('ann'), made.extended('ann', NAP), made.shortened('ann', 0), made.formed('out', 'bag'),
                          made.called(()), made.mirror()):
                self.assertIs(type(other), Program)


def outcome_of_called(source, *names):
    """What Called raises."""
    try:
        Called(source, *names)
    except ValueError as error:
        return ('raises', (type(error).__name__, dict(vars(error))))
    return None


if __name__ == '__main__':
    unittest.main()
