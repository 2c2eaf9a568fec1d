"""[8], [13], [15], [16]: changes of programs."""

import unittest

from ascalls.kinds import is_program
from ascalls.programchanges import (mirrored, with_arrow, with_calls, with_channel, with_form, with_party, without_arrow,
                                    without_channel, without_party)
from ascalls.programchecker import lets_program
from tests.samples import (ANN, ASK, BARE, CHANNELS, EMPTY, MIXED, NEVER, PROGRAMS, ROUND, SOMETIMES, outcome, paper,
                           returned, unusable)

BACK, OUT = CHANNELS
BOB = ASK[0][1]
THINGS = NEVER + SOMETIMES


class ChangeTests(unittest.TestCase):
    def check(self, function, args, result):
        self.assertEqual(outcome(function, *args), result, (function.__name__, args))

    def test_example(self):
        changed = ((('ann', (2,), ((1, ('take', 'back', 'ok'), 2),)), ('bob', (2,), ((1, ('put', 'back', 'ok'), 2),))),
                   (('back', 'bob', 'ann', 'queue'),))
        self.assertEqual(without_channel(ASK, 'out'), changed)

    def test_with_channel(self):
        for name, at in (('a', 0), ('bac', 0), ('c', 1), ('ouu', 2), ('z', 2)):
            channel = (name, 'bob', 'ann', 'call')
            self.check(with_channel, (ASK, channel), returned((ASK[0], CHANNELS[:at] + (channel,) + CHANNELS[at:])))
        first = ('a', 'abcdefgh', 'a', 'queue')
        self.check(with_channel, (BARE, first), returned((BARE[0], (first,) + BARE[1])))

    def test_with_channel_put_last(self):
        for channel in NEVER + ((), (0,), ('Back', 'bob', 'ann', 'bag'), list(OUT), BACK, OUT, ('back',), ('out', None),
                                ('back', 'bob', 'ann', 'bag'), (('a', 'bob', 'ann', 'bag'),), 'a', 0):
            self.check(with_channel, (ASK, channel), paper('channel', 2))
        self.check(with_channel, (EMPTY, None), paper('channel', 0))

    def test_with_channel_wrong_at_its_place(self):
        for rest in ((), ('ann',), ('ann', 'bob'), ('ann', 'bob', 'heap'), ('ann', None, 'bag'), ('ann', 'bob', ['bag']),
                     ('ann', 'bob', 'bag', 'bag')):
            self.check(with_channel, (ASK, ('a',) + rest), paper('channel', 0))
            self.check(with_channel, (ASK, ('c',) + rest), paper('channel', 1))
        self.check(with_channel, (ASK, ('c', 'ann', 'ann', 'bag')), paper('ends', 1))
        self.check(with_channel, (ASK, ('c', 'cid', 'ann', 'bag')), paper('sender', 1))
        self.check(with_channel, (ASK, ('a', 'ann', 'cid', 'bag')), paper('taker', 0))

    def test_without_channel(self):
        self.check(without_channel, (ASK, 'back'), returned((
            (('ann', (2,), ((0, ('put', 'out', 'hi'), 1),)), ('bob', (2,), ((0, ('take', 'out', 'hi'), 1),))), (OUT,))))
        self.check(without_channel, (BARE, 'q'), returned((BARE[0], ())))
        for name in THINGS + ('hi', 'bac', ['out'], OUT):
            self.check(without_channel, (ASK, name), unusable('name'))

    def test_without_channel_leaves_the_dos_and_letters_of_its_name(self):
        arrows = ((0, ('do', 'out'), 1), (1, ('put', 'out', 'out'), 2), (0, ('take', 'back', 'out'), 2), (1, ('do', 'out'), 1))
        program = ((('ann', (5,), arrows), ('bob', (), ())), CHANNELS)
        left = (arrows[0], arrows[2], arrows[3])
        self.check(without_channel, (program, 'out'), returned(((('ann', (5,), left), ('bob', (), ())), (BACK,))))

    def test_with_party(self):
        for name, at in (('a', 0), ('anm', 0), ('az', 1), ('bz', 2), ('z', 2)):
            party = (name, (0, 3), ((0, ('do', 'nap'), 1),))
            self.check(with_party, (ASK, party), returned((ASK[0][:at] + (party,) + ASK[0][at:], CHANNELS)))
        self.check(with_party, (EMPTY, ('a', (), ())), returned(((('a', (), ()),), ())))

    def test_with_party_put_last(self):
        for party in NEVER + ((), (0,), ('Cid', (), ()), list(ANN), ANN, BOB, ('ann', (), ()), ('bob',), ('ann', None), 'a'):
            self.check(with_party, (ASK, party), paper('party', 2))
        self.check(with_party, (EMPTY, []), paper('party', 0))

    def test_with_party_wrong_at_its_place(self):
        for rest in ((), ((),), ((), (), ()), ((), []), ((), None)):
            self.check(with_party, (ASK, ('a',) + rest), paper('party', 0))
            self.check(with_party, (ASK, ('az',) + rest), paper('party', 1))
        self.check(with_party, (ASK, ('az', [0], ())), paper('finals', 1))
        self.check(with_party, (ASK, ('az', (True,), ())), paper('finals', 1))
        self.check(with_party, (ASK, ('az', (), (None,))), paper('arrow', (1, 0)))
        self.check(with_party, (ASK, ('az', (), ((0, ('do', 'b'), 0),) * 2)), paper('twice', (1, 1)))
        self.check(with_party, (ASK, ('az', (), ((0, ('put', 'out', 'b'), 0),))), paper('owner', (1, 0)))

    def test_without_party(self):
        self.check(without_party, (ASK, 'ann'), returned(((('bob', (2,), ()),), ())))
        self.check(without_party, (ROUND, 'cid'), returned(((
            ('ann', (2,), ((0, ('put', 'x', 'hi'), 1),)), ('bob', (2,), ((1, ('take', 'x', 'hi'), 2),))),
            (('x', 'ann', 'bob', 'queue'),))))
        self.check(without_party, (ROUND, 'ann'), returned(((
            ('bob', (2,), ((0, ('take', 'z', 'hi'), 1),)), ('cid', (2,), ((1, ('put', 'z', 'hi'), 2),))),
            (('z', 'cid', 'bob', 'queue'),))))
        self.check(without_party, (BARE, 'a'), returned((BARE[0][1:], ())))
        for party in THINGS + ('cid', 'out', ['bob']):
            if party != 'ann':
                self.check(without_party, (ASK, party), unusable('party'))

    def test_without_party_of_another_name(self):
        """A party is in a channel as its sender or taker alone, whatever else has its name."""
        parties = (('a', (), ()), ('b', (), ((0, ('do', 'queue'), 0), (0, ('put', 'x', 'queue'), 1))), ('queue', (), ()),
                   ('x', (), ()))
        program = (parties, (('x', 'b', 'a', 'queue'),))
        self.check(without_party, (program, 'queue'), returned((parties[:2] + parties[3:], program[1])))
        self.check(without_party, (program, 'x'), returned((parties[:3], program[1])))
        left = (parties[0], ('b', (), ((0, ('do', 'queue'), 0),)), parties[2], parties[3])
        self.check(without_party, (program, 'a'), returned((left[1:], ())))

    def test_with_arrow(self):
        arrow = (2, ('put', 'out', 'bye'), 0)
        self.check(with_arrow, (ASK, 'ann', arrow), returned(((ANN[:2] + (ANN[2] + (arrow,),), BOB), CHANNELS)))
        nap = (7, ('do', 'nap'), 10 ** 59)
        self.check(with_arrow, (ASK, 'bob', nap), returned(((ANN, BOB[:2] + (BOB[2] + (nap,),)), CHANNELS)))

    def test_with_arrow_wrong(self):
        for arrow in THINGS + (list(ANN[2][0]), (0, ('do', 'nap'), True), (True, ('do', 'nap'), 0), (0, ('do', ['a']), 0)):
            self.check(with_arrow, (ASK, 'bob', arrow), paper('arrow', (1, 2)))
        self.check(with_arrow, (ASK, 'ann', ANN[2][1]), paper('twice', (0, 2)))
        self.check(with_arrow, (ASK, 'ann', (0, ('put', 'back', 'ok'), 0)), paper('owner', (0, 2)))
        self.check(with_arrow, (ASK, 'ann', (0, ('put', 'none', 'ok'), 0)), paper('owner', (0, 2)))
        for party in THINGS:
            if party != 'ann':
                self.check(with_arrow, (ASK, party, None), unusable('party'))

    def test_without_arrow(self):
        self.check(without_arrow, (ASK, 'ann', 0), returned(((ANN[:2] + (ANN[2][1:],), BOB), CHANNELS)))
        self.check(without_arrow, (ASK, 'ann', 1), returned(((ANN[:2] + (ANN[2][:1],), BOB), CHANNELS)))
        self.check(without_arrow, (MIXED, 'bob', 2), returned(
            ((MIXED[0][0], MIXED[0][1][:2] + (MIXED[0][1][2][:2] + MIXED[0][1][2][3:],)), MIXED[1])))
        for k in (2, -1, True, False, None, 'a', '0', (0,), [0], 10 ** 59):
            self.check(without_arrow, (ASK, 'ann', k), unusable('k'))
        self.check(without_arrow, (BARE, 'a', 0), unusable('k'))
        for party in THINGS:
            if party != 'ann':
                self.check(without_arrow, (ASK, party, 5), unusable('party'))

    def test_with_form(self):
        for form in ('queue', 'bag', 'call'):
            self.check(with_form, (ASK, 'out', form), returned((ASK[0], (BACK, OUT[:3] + (form,)))))
        for form in NEVER + (0, 1, 'heap', 'Queue', 'queues', ('bag',), ['bag'], (), 'put'):
            self.check(with_form, (ASK, 'out', form), unusable('form'))
        for name in THINGS:
            self.check(with_form, (ASK, name, None), unusable('name'))

    def test_with_calls(self):
        self.check(with_calls, (ASK, ()), returned(ASK))
        self.check(with_calls, (EMPTY, ()), returned(EMPTY))
        self.check(with_calls, (ASK, ('out',)), returned((ASK[0], (BACK, OUT[:3] + ('call',)))))
        both = (ASK[0], (BACK[:3] + ('call',), OUT[:3] + ('call',)))
        self.check(with_calls, (ASK, ('back', 'out')), returned(both))
        self.check(with_calls, (both, ('out',)), returned(both))
        wrong = NEVER + (0, 'out', ['out'], ('out', 'back'), ('out', 'out'), ('cid',), ('back', 'zed'), ('back', True),
                         ('back', ['out']), (('back',),), [], ('ann',), ('out', 7), (None, 'out'))
        for names in wrong:
            self.check(with_calls, (ASK, names), unusable('names'))

    def test_mirrored(self):
        self.check(mirrored, (ASK,), returned((
            (('ann', (2,), ((0, ('take', 'out', 'hi'), 1), (1, ('put', 'back', 'ok'), 2))),
             ('bob', (2,), ((0, ('put', 'out', 'hi'), 1), (1, ('take', 'back', 'ok'), 2)))),
            (('back', 'ann', 'bob', 'queue'), ('out', 'bob', 'ann', 'queue')))))
        named = ((('ann', (), ((0, ('do', 'put'), 0), (0, ('put', 'take', 'put'), 1))), ('bob', (), ())),
                 (('take', 'ann', 'bob', 'bag'),))
        self.check(mirrored, (named,), returned((
            (('ann', (), ((0, ('do', 'put'), 0), (0, ('take', 'take', 'put'), 1))), ('bob', (), ())),
            (('take', 'bob', 'ann', 'bag'),))))
        for program in PROGRAMS:
            self.assertEqual(mirrored(mirrored(program)), program)
            self.assertTrue(is_program(mirrored(program)))

    def test_what_is_put_back_is_as_before(self):
        for program in (ASK, ROUND, BARE):
            for channel in program[1]:
                smaller = without_channel(program, channel[0])
                self.assertEqual(with_channel(smaller, channel)[1], program[1])
                lets_program(smaller)
            for party in program[0]:
                smaller = without_party(program, party[0])
                lets_program(smaller)
                names = [row[0] for row in with_party(smaller, (party[0], party[1], ()))[0]]
                self.assertEqual(names, [row[0] for row in program[0]])
            for name, _, arrows in program[0]:
                if arrows:
                    last = len(arrows) - 1
                    self.assertEqual(with_arrow(without_arrow(program, name, last), name, arrows[last]), program)

    def test_by_name(self):
        self.assertEqual(with_channel(channel=('a', 'ann', 'bob', 'bag'), program=ASK)[1][0][0], 'a')
        self.assertEqual(without_channel(name='out', program=ASK), without_channel(ASK, 'out'))
        self.assertEqual(with_party(party=('c', (), ()), program=EMPTY), ((('c', (), ()),), ()))
        self.assertEqual(without_party(party='ann', program=ASK), without_party(ASK, 'ann'))
        self.assertEqual(with_arrow(arrow=(5, ('do', 'a'), 5), party='ann', program=ASK)[0][0][2][2], (5, ('do', 'a'), 5))
        self.assertEqual(without_arrow(k=0, party='ann', program=ASK), without_arrow(ASK, 'ann', 0))
        self.assertEqual(with_form(form='bag', name='out', program=ASK), with_form(ASK, 'out', 'bag'))
        self.assertEqual(with_calls(names=('out',), program=ASK), with_calls(ASK, ('out',)))
        self.assertEqual(mirrored(program=ASK), mirrored(ASK))


if __name__ == '__main__':
    unittest.main()
