"""[2], [3], [4], [11]: the functions of kinds."""

import string
import unittest

from ascalls import kinds
from ascalls.programchecker import lets_program
from tests.samples import (A, ANN, ASK, BARE, CHANNELS, EMPTY, NEVER, PROGRAMS, ROUND, SOMETIMES, mutants, outcome,
                           replaced, returned)

PREDICATES = (kinds.is_integer, kinds.is_number, kinds.is_name, kinds.is_doing, kinds.is_arrow, kinds.is_channel,
              kinds.is_party, kinds.is_program, kinds.is_event)
PUT = ('put', 'out', 'hi')


class KindTests(unittest.TestCase):
    def check(self, predicate, right, wrong):
        for thing in right:
            self.assertEqual(outcome(predicate, thing), returned(True), (predicate.__name__, thing))
        for thing in wrong:
            self.assertEqual(outcome(predicate, thing), returned(False), (predicate.__name__, thing))

    def check_all_mutants(self, predicate, thing, right_paths):
        """Only changes at the paths that are given, to what is given for them, are right."""
        self.check(predicate, [thing], [])
        for path, changed in mutants(thing, NEVER):
            self.check(predicate, [], [changed])
        for path, things in right_paths.items():
            self.check(predicate, [replaced(thing, path, other) for other in things], [])

    def test_integers(self):
        wrong = (True, False, None, '', '1', (), (1,), [], [1], ((1,),))
        self.check(kinds.is_integer, (0, 1, -1, 10 ** 59, -10 ** 59, 10 ** 70), wrong)

    def test_numbers(self):
        self.check(kinds.is_number, (0, 1, 10 ** 59, 10 ** 70), (-1, -10 ** 59, True, False, None, '0', (0,), [0]))

    def test_names(self):
        right = ['a', 'z', 'abcdefgh', 'zzzzzzzz', 'queue', 'put', 'do'] + list(string.ascii_lowercase)
        wrong = ['', 'abcdefghi', 'A', 'aB', 'a1', '1', 'a b', ' a', 'a ', 'a\n', '\n', 'a_', '-', '~', '{', '`',
                 None, True, 0, 1, ('a',), ['a'], (), []]
        self.check(kinds.is_name, right, wrong)

    def test_every_character_but_letters_is_wrong(self):
        signs = [chr(k) for k in range(32, 127)] + ['\n']
        self.check(kinds.is_name, [], [sign for sign in signs if sign not in string.ascii_lowercase])

    def test_doings(self):
        right = (PUT, ('take', 'out', 'hi'), ('do', 'nap'), ('do', 'put'), ('put', 'put', 'put'), ('do', 'do'))
        wrong = (('do', 'nap', 'nap'), ('put', 'out'), ('take', 'out'), ('put',), ('do',), (), ('put', 'out', 'hi', 'a'),
                 ('puts', 'out', 'hi'), ('get', 'out', 'hi'), ('nap', 'do'), 'do', 'do nap', ['do', 'nap'],
                 (['do'], 'nap'), ('do', ['nap']), ('do', ('nap',)), (1, 'a', 'b'), (True, 'a'), None)
        self.check(kinds.is_doing, right, wrong)
        self.check_all_mutants(kinds.is_doing, PUT, {(0,): ('put', 'take'), (1,): ('a', 'abcdefgh'), (2,): ('put', 'z')})
        self.check_all_mutants(kinds.is_doing, ('do', 'nap'), {(1,): ('a', 'abcdefgh')})

    def test_arrows(self):
        arrow = (0, PUT, 1)
        paths = {(0,): (0, 1, 10 ** 59), (2,): (0, 1, 10 ** 59), (1,): (('do', 'nap'), ('take', 'a', 'b'))}
        self.check_all_mutants(kinds.is_arrow, arrow, paths)
        self.check(kinds.is_arrow, [], [(), (0, PUT), (0, PUT, 1, 1), (PUT, 0, 1), (0, 1), (True, PUT, 1), (0, PUT, True),
                                        (False, PUT, 1), (0, PUT, -1), (0, None, 1)])

    def test_channels(self):
        channel = ('back', 'bob', 'ann', 'queue')
        paths = {(0,): ('a', 'bob', 'abcdefgh'), (1,): ('a', 'back'), (2,): ('a', 'back'), (3,): ('queue', 'bag', 'call')}
        self.check_all_mutants(kinds.is_channel, channel, paths)
        self.check(kinds.is_channel, [], [('x', 'a', 'a', 'queue'), ('x', 'a', 'b'), ('x', 'a', 'b', 'queue', 'bag'),
                                          ('x', 'a', 'b', 'heap'), ('x', 'a', 'b', 'queues'), ()])

    def test_parties(self):
        arrow = (1, ('do', 'nap'), 1)
        paths = {(0,): ('a', 'abcdefgh'), (1,): ((), (0,), (0, 1), (0, 10 ** 59)), (2,): ((), (arrow,)),
                 (2, 0): (arrow, (0, ('take', 'none', 'a'), 0))}
        self.check_all_mutants(kinds.is_party, ANN, paths)
        right = (('a', (), ()), ('a', (0, 1, 2), ((0, PUT, 1), (0, PUT, 2), (1, PUT, 1), (0, ('take', 'out', 'hi'), 1))))
        wrong = (('a', (1, 0), ()), ('a', (0, 0), ()), ('a', (0, True), ()), ('a', (False, 1), ()), ('a', (-1, 0), ()),
                 ('a', (0, '1'), ()), ('a', [0], ()), ('a', (), [arrow]), ('a', (), (arrow, arrow)), ('a', ()), (),
                 ('a', (), (), ()), ('a', (), (arrow, (0, PUT, 1), arrow)), ('a', (), ((1, ('do', 'nap'), True),)),
                 ('a', (), arrow), ('a', 0, ()), ('a', ((0,),), ()))
        self.check(kinds.is_party, right, wrong)

    def test_events(self):
        self.check_all_mutants(kinds.is_event, ('ann', 0), {(0,): ('a', 'abcdefgh'), (1,): (0, 1, 10 ** 59)})
        self.check(kinds.is_event, [], [('ann', True), ('ann', False), ('ann', -1), ('ann',), ('ann', 0, 0), (0, 'ann'),
                                        (('ann', 0),), ['ann', 0], ()])

    def test_programs(self):
        self.check(kinds.is_program, PROGRAMS, [])
        for program in (ASK, ROUND, BARE, EMPTY):
            self.check_all_mutants(kinds.is_program, program, {})

    def test_programs_that_are_wrong_as_a_whole(self):
        ann, bob = ASK[0]
        back, out = CHANNELS
        wrong = [
            ((bob, ann), CHANNELS), ((ann, ann, bob), CHANNELS), ((ann, bob), (out, back)), ((ann, bob), (back, back, out)),
            ((ann, bob), (out,)), ((ann,), CHANNELS), ((), CHANNELS), ((bob,), CHANNELS), ((ann, bob), ()),
            (ASK[0], (('back', 'ann', 'bob', 'queue'), out)), (ASK[0], (back, ('out', 'bob', 'ann', 'queue'))),
            (ASK[0], (back, ('out', 'ann', 'cid', 'queue'))), (ASK[0], (back, ('out', 'cid', 'bob', 'queue'))),
            (ASK[0],), (ASK[0], CHANNELS, ()), [ASK[0], CHANNELS], (list(ASK[0]), CHANNELS), (ASK[0], list(CHANNELS)),
            ((A,), ()), (CHANNELS, ASK[0]),
        ]
        self.check(kinds.is_program, [], wrong)

    def test_is_program_is_true_just_where_the_checker_accepts(self):
        for program in (ASK, ROUND, BARE, EMPTY):
            for _, changed in mutants(program):
                accepted = outcome(lets_program, changed)[0] == 'returns'
                self.assertEqual(outcome(kinds.is_program, changed), returned(accepted), changed)

    def test_any_value_is_answered_by_all(self):
        deep = 'a'
        for _ in range(29):
            deep = (deep,)
        things = NEVER + SOMETIMES + PROGRAMS + (deep, [deep], [[[]]], (None,) * 4, tuple(range(5000)), 'a' * 4000)
        for predicate in PREDICATES:
            for thing in things:
                self.assertEqual(outcome(predicate, thing)[0], 'returns')
                self.assertIn(predicate(thing), (True, False))
                self.assertIs(predicate(thing=thing), predicate(thing))


if __name__ == '__main__':
    unittest.main()
