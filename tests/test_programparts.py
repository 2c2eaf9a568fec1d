"""[6], [13], [14]: parts of programs, and the order of their errors."""

import unittest

from ascalls.programparts import arrows_from, channel_of, channels_between, doing_of, letters_on, places_of
from tests.samples import (ASK, BARE, CHANNELS, EMPTY, MIXED, NEVER, PROGRAMS, ROUND, SOMETIMES, TWO, outcome, returned,
                           unusable)

THINGS = NEVER + SOMETIMES


class PartTests(unittest.TestCase):
    def check(self, function, args, result):
        self.assertEqual(outcome(function, *args), result, (function.__name__, args))

    def test_examples(self):
        found = [arrows_from(ASK, 'ann', 1), doing_of(ASK, ('bob', 1)), channels_between(ASK, 'bob', 'ann'),
                 letters_on(ASK, 'out'), places_of(ASK, 'ann')]
        self.assertEqual(found, [(1,), ('put', 'back', 'ok'), ('back', 'out'), ('hi',), (0, 1, 2)])

    def test_arrows_from(self):
        self.check(arrows_from, (ASK, 'ann', 0), returned((0,)))
        self.check(arrows_from, (ASK, 'ann', 2), returned(()))
        self.check(arrows_from, (MIXED, 'ann', 1), returned((2, 3)))
        self.check(arrows_from, (MIXED, 'bob', 3), returned(()))
        self.check(arrows_from, (BARE, 'a', 0), returned(()))
        self.check(arrows_from, (BARE, 'abcdefgh', 7), returned(()))
        for place in (3, True, False, -1, None, 'a', '0', (0,), [0], [], 10 ** 59):
            self.check(arrows_from, (ASK, 'ann', place), unusable('place'))
        self.check(arrows_from, (BARE, 'a', 7), unusable('place'))
        self.check(arrows_from, (ASK, 'cid', 0), unusable('party'))
        self.check(arrows_from, (ASK, ['ann'], None), unusable('party'))

    def test_arrows_from_tells_each_arrow_once(self):
        for program in PROGRAMS:
            for name, _, arrows in program[0]:
                found = [k for place in places_of(program, name) for k in arrows_from(program, name, place)]
                self.assertEqual(sorted(found), list(range(len(arrows))))

    def test_doing_of(self):
        for program in PROGRAMS:
            for name, _, arrows in program[0]:
                for k, arrow in enumerate(arrows):
                    self.check(doing_of, (program, (name, k)), returned(arrow[1]))
                for k in (len(arrows), -1, True, False, None, '0', (0,), [0]):
                    self.check(doing_of, (program, (name, k)), unusable('event'))
        for event in THINGS + (('cid', 0), ('ann',), ('ann', 0, 0), ['ann', 0], (['ann'], 0), (('ann', 0),), 'ann'):
            self.check(doing_of, (ASK, event), unusable('event'))

    def test_channel_of(self):
        for program in PROGRAMS:
            for channel in program[1]:
                self.check(channel_of, (program, channel[0]), returned(channel))
        for name in THINGS + ('outs', 'hi', ('out',), ['out']):
            self.check(channel_of, (ASK, name), unusable('name'))
        self.check(channel_of, (EMPTY, 'out'), unusable('name'))

    def test_channels_between(self):
        self.check(channels_between, (ASK, 'ann', 'bob'), returned(('back', 'out')))
        self.check(channels_between, (ROUND, 'ann', 'bob'), returned(('x',)))
        self.check(channels_between, (ROUND, 'bob', 'cid'), returned(('z',)))
        self.check(channels_between, (MIXED, 'bob', 'ann'), returned(('q', 'r', 's')))
        apart = (ROUND[0], ROUND[1][:1])
        self.check(channels_between, (apart, 'bob', 'cid'), returned(()))
        for other in THINGS + ('dan', ['bob']):
            if other != 'ann':
                self.check(channels_between, (ASK, 'bob', other), unusable('other'))
        self.check(channels_between, (ASK, 'ann', 'ann'), unusable('other'))
        self.check(channels_between, (ASK, 'cid', 'ann'), unusable('party'))
        self.check(channels_between, (ASK, 'cid', 'cid'), unusable('party'))
        self.check(channels_between, (ASK, None, None), unusable('party'))

    def test_letters_on(self):
        self.check(letters_on, (ASK, 'back'), returned(('ok',)))
        self.check(letters_on, (MIXED, 'q'), returned(('a', 'b')))
        self.check(letters_on, (TWO, 'x'), returned(('hi',)))
        self.check(letters_on, (BARE, 'q'), returned(()))
        turned = (((('ann', (), ((0, ('put', 'x', 'z'), 0), (0, ('put', 'x', 'b'), 0), (1, ('put', 'x', 'z'), 0)))),
                   ('bob', (), ((0, ('take', 'x', 'm'), 0), (0, ('do', 'x'), 0)))), (('x', 'ann', 'bob', 'bag'),))
        self.check(letters_on, (turned, 'x'), returned(('b', 'z')))
        for name in THINGS:
            self.check(letters_on, (ASK, name), unusable('name'))

    def test_places_of(self):
        self.check(places_of, (ASK, 'bob'), returned((0, 1, 2)))
        self.check(places_of, (BARE, 'a'), returned((0,)))
        self.check(places_of, (BARE, 'abcdefgh'), returned((0, 7)))
        self.check(places_of, (MIXED, 'bob'), returned((0, 1, 3)))
        far = ((('a', (9, 10), ((4, ('do', 'b'), 2), (12, ('do', 'b'), 2))),), ())
        self.check(places_of, (far, 'a'), returned((0, 2, 4, 9, 10, 12)))
        for party in THINGS:
            if party != 'ann':
                self.check(places_of, (ASK, party), unusable('party'))

    def test_by_name(self):
        self.assertEqual(arrows_from(place=0, party='ann', program=ASK), (0,))
        self.assertEqual(doing_of(event=('ann', 0), program=ASK), ('put', 'out', 'hi'))
        self.assertEqual(channel_of(name='out', program=ASK), CHANNELS[1])
        self.assertEqual(channels_between(other='bob', party='ann', program=ASK), ('back', 'out'))
        self.assertEqual(letters_on(name='out', program=ASK), ('hi',))
        self.assertEqual(places_of(party='ann', program=ASK), (0, 1, 2))


if __name__ == '__main__':
    unittest.main()
