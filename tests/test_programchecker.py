"""[3], [10], [12]: the checker of programs, each word with its place."""

import unittest

from ascalls.programchecker import lets_program
from tests.samples import (ANN, ASK, BARE, BOTH, CHANNELS, EMPTY, MIXED, NEVER, PROGRAMS, ROUND, mutants, outcome, paper,
                           raised, replaced, returned)

BACK, OUT = CHANNELS
BOB = ASK[0][1]
NAP = (0, ('do', 'nap'), 0)


class CheckerTests(unittest.TestCase):
    def check(self, thing, word, at):
        self.assertEqual(outcome(lets_program, thing), paper(word, at), thing)

    def test_examples(self):
        self.assertEqual(lets_program(ROUND), 6)
        self.assertEqual(outcome(lets_program, ((ANN,), CHANNELS)), raised('InvalidPaper', word='sender', at=0))

    def test_number_of_arrows(self):
        for program, many in ((EMPTY, 0), (BARE, 0), (ASK, 4), (BOTH, 4), (MIXED, 8)):
            self.assertEqual(outcome(lets_program, program), returned(many))
            self.assertEqual(lets_program(thing=program), many)
        self.assertEqual(len(PROGRAMS), len([program for program in PROGRAMS if lets_program(program) >= 0]))

    def test_shape(self):
        things = NEVER + ((), ((),), ((), (), ()), [(), ()], ((), []), ([], ()), (None, ()), ((), 'a'), 'ab', 5, ('', ''))
        for thing in things:
            self.check(thing, 'shape', -1)

    def test_every_position(self):
        things = [thing for thing in NEVER if not isinstance(thing, tuple)]
        for path, changed in mutants(ASK, things):
            if len(path) < 2:
                word, at = 'shape', -1
            elif path[0] == 1:
                word, at = 'channel', path[1]
            elif len(path) == 2 or path[2] == 0 or path[2:] == (2,):
                word, at = 'party', path[1]
            elif path[2] == 1:
                word, at = 'finals', path[1]
            else:
                word, at = 'arrow', (path[1], path[3])
            self.check(changed, word, at)

    def test_channel(self):
        for thing in (('x', 'ann', 'bob'), ('x', 'ann', 'bob', 'queue', 0), ('x', 'ann', 'bob', 'heap'), ('x', 'ann', 'bob', 7),
                      ('x', 'ann', 'bob', ['queue']), list(OUT), ('x', 'ann', 'bob', True), 'out'):
            self.check((ASK[0], (thing,)), 'channel', 0)
            self.check((ASK[0], CHANNELS + (thing,)), 'channel', 2)

    def test_channels_ascend(self):
        self.check((ASK[0], (OUT, BACK)), 'channel', 1)
        self.check((ASK[0], (BACK, BACK, OUT)), 'channel', 1)
        self.check((ASK[0], (BACK, OUT, OUT[:3] + ('bag',))), 'channel', 2)
        self.check((ASK[0], (BACK, OUT, ('ok', 'ann', 'bob', 'queue'))), 'channel', 2)

    def test_ends(self):
        self.check((ASK[0], (BACK[:2] + ('bob', 'queue'), OUT)), 'ends', 0)
        self.check((ASK[0], (BACK, ('out', 'zed', 'zed', 'queue'))), 'ends', 1)

    def test_party(self):
        for thing in (('cid', ()), ('cid', (), (), ()), ('Cid', (), ()), (7, (), ()), ('cid', (), []), ('cid', (), None),
                      ['cid', (), ()], (), 'cid', ('cid', (), 'a'), (True, (), ())):
            self.check((ASK[0] + (thing,), CHANNELS), 'party', 2)
        self.check(((BOB, ANN), CHANNELS), 'party', 1)
        self.check(((ANN, ANN, BOB), CHANNELS), 'party', 1)
        self.check(((ANN, BOB, ('bob', (), ())), CHANNELS), 'party', 2)

    def test_finals(self):
        for ends in ([], None, 0, 'a', (True,), (0, True), (False, 1), (-1,), (1, 0), (0, 0), ('0',), ((0,),), ([],)):
            self.check(((ANN, ('bob', ends, ())), CHANNELS), 'finals', 1)

    def test_arrow(self):
        for arrow in (None, (), (0, ('do', 'nap')), (0, ('do', 'nap'), 0, 0), (True, ('do', 'nap'), 0), (0, ('do', 'nap'), True),
                      (0, ('do',), 0), (0, ['do', 'nap'], 0), [0, ('do', 'nap'), 0], (-1, ('do', 'nap'), 0)):
            self.check(((ANN, BOB[:2] + ((NAP, arrow),)), CHANNELS), 'arrow', (1, 1))
            self.check(((('ann', (), (arrow,)),), ()), 'arrow', (0, 0))

    def test_twice(self):
        self.check(((ANN, BOB[:2] + ((NAP, BOB[2][0], NAP),)), CHANNELS), 'twice', (1, 2))
        self.check(((ANN[:2] + (ANN[2] + ANN[2],), BOB), CHANNELS), 'twice', (0, 2))
        twice = (0, ('put', 'none', 'hi'), 0)
        self.check(((('ann', (), (twice, twice)),), ()), 'owner', (0, 0))

    def test_owner(self):
        for doing in (('put', 'back', 'hi'), ('take', 'out', 'hi'), ('put', 'none', 'hi'), ('take', 'none', 'hi')):
            self.check(((ANN[:2] + ((NAP, (0, doing, 0)),), BOB), CHANNELS), 'owner', (0, 1))
        for doing in (('put', 'out', 'hi'), ('take', 'back', 'ok')):
            self.check(((ANN, BOB[:2] + ((NAP, (0, doing, 0)),)), CHANNELS), 'owner', (1, 1))
        cid = ('cid', (), ((0, ('take', 'back', 'ok'), 0),))
        self.check((ASK[0] + (cid,), CHANNELS), 'owner', (2, 0))

    def test_a_do_has_no_channel(self):
        program = ((('ann', (), ((0, ('do', 'out'), 0), (0, ('do', 'none'), 0))),), ())
        self.assertEqual(lets_program(program), 2)

    def test_sender_and_taker(self):
        self.check(((ANN,), CHANNELS), 'sender', 0)
        self.check(((BOB,), CHANNELS), 'taker', 0)
        self.check(((('bob', (), ()),), (('x', 'ann', 'bob', 'bag'),)), 'sender', 0)
        self.check(((('ann', (), ()),), (('x', 'ann', 'bob', 'bag'),)), 'taker', 0)
        self.check(((), (('x', 'ann', 'bob', 'bag'),)), 'sender', 0)
        self.check((ASK[0], CHANNELS + (('x', 'ann', 'cid', 'bag'),)), 'taker', 2)
        self.check((ASK[0], CHANNELS + (('x', 'ann', 'cid', 'bag'), ('y', 'cid', 'ann', 'bag'))), 'taker', 2)

    def test_first_entry_that_applies(self):
        bad_channel, bad_ends = ('x', 'ann', 'ann'), ('x', 'ann', 'ann', 'bag')
        bad_arrow = ('ann', (), (NAP, None))
        self.check(([], (bad_channel,)), 'shape', -1)
        self.check(((None,), (BACK, bad_ends)), 'ends', 1)
        self.check(((None,), (bad_ends, bad_channel)), 'ends', 0)
        self.check(((None,), (('y', 'ann', 'bob', 'bag'), bad_ends)), 'channel', 1)
        self.check((('ann', None), (('y', 'ann', 'bob', 'bag'),)), 'party', 0)
        self.check(((('ann', None, None),), ()), 'party', 0)
        self.check(((('ann', None, (None,)),), ()), 'finals', 0)
        self.check(((bad_arrow, None), ()), 'arrow', (0, 1))
        self.check(((bad_arrow, ('ann', None, ())), ()), 'arrow', (0, 1))
        self.check(((('ann', (), ((0, ('put', 'x', 'a'), 0), None)),), ()), 'owner', (0, 0))
        self.check(((('ann', (), (NAP, NAP, None)),), ()), 'twice', (0, 1))
        self.check(((('ann', (), ()), ('ann', (), (None,))), (('x', 'ann', 'cid', 'bag'),)), 'party', 1)
        self.check(((('ann', (), (None,)),), (('x', 'cid', 'ann', 'bag'),)), 'arrow', (0, 0))
        self.check(((), (('x', 'ann', 'bob', 'bag'), ('y', 'ann', 'bob', 'bag'))), 'sender', 0)

    def test_nested_values(self):
        deep = []
        for _ in range(28):
            deep = [deep]
        self.check(replaced(ASK, (0, 1, 2, 0, 1, 2), deep), 'arrow', (1, 0))
        self.check(replaced(ASK, (1, 1, 3), deep), 'channel', 1)


if __name__ == '__main__':
    unittest.main()
