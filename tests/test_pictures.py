"""[29]: pictures of runs."""

import unittest
from random import Random

from ascalls.pictures import picture
from tests import model
from tests.samples import (ASK, ASK_CALLED, BOTH, DONE, EMPTY, LIES, MADE, MIXED, MIXED_BAGS, NEVER, PROGRAMS, SOMETIMES, TWO,
                           TWO_BAG, kinds_in, outcome, returned, unusable)

LONG = ((('abcdefgh', (), ((0, ('put', 'stuvwxyz', 'hijklmno'), 0), (0, ('do', 'abcdefgh'), 0))),
         ('b', (), ((0, ('take', 'stuvwxyz', 'hijklmno'), 0),))),
        (('stuvwxyz', 'abcdefgh', 'b', 'queue'),))


def line(mark, *texts):
    """A string of a picture, built sign by sign."""
    found = ' ' * (3 - len(mark)) + mark
    for text in texts:
        found += ' ' + text + ' ' * (26 - len(text))
    return found


def lines_of(program, state):
    """The picture of a run by the model."""
    names = [party[0] for party in program[0]]
    found = [line('', *names)]
    for k, event in enumerate(state.events):
        words = list(state.arrows[event][1])
        words += [str(n) for n, row in enumerate(state.letters) if k in row[2:]]
        found.append(line(str(k), *[' '.join(words) if name == event[0] else '' for name in names]))
    return found


class PictureTests(unittest.TestCase):
    def test_example(self):
        self.assertEqual(picture(TWO, MADE)[3], '  2                            take x hi 0               ')

    def test_whole_pictures(self):
        self.assertEqual(outcome(picture, TWO, MADE), returned([
            line('', 'ann', 'bob'), line('0', 'put x hi 0', ''), line('1', 'put x hi 1', ''), line('2', '', 'take x hi 0')]))
        self.assertEqual(picture(program=ASK_CALLED, made=DONE), [
            line('', 'ann', 'bob'), line('0', 'put out hi 0', ''), line('1', '', 'take out hi 0'),
            line('2', '', 'put back ok 1'), line('3', 'take back ok 1', '')])

    def test_nothing(self):
        self.assertEqual(outcome(picture, EMPTY, ()), returned(['   ']))
        self.assertEqual(outcome(picture, ASK, ()), returned([line('', 'ann', 'bob')]))

    def test_a_do_has_no_number(self):
        made = (('ann', 1), ('ann', 3), ('ann', 2), ('ann', 0))
        self.assertEqual(picture(MIXED, made)[1:], [
            line('0', 'put q b 0', ''), line('1', 'put r a 1', ''), line('2', 'do nap', ''), line('3', 'put q a 2', '')])

    def test_a_bag_where_letters_pass(self):
        made = (('ann', 0), ('ann', 0), ('ann', 1), ('bob', 0))
        self.assertEqual(picture(MIXED_BAGS, made)[4], line('3', '', 'take q b 2'))
        self.assertEqual(picture(TWO_BAG, MADE)[3], line('2', '', 'take x hi 0'))

    def test_long_names_and_many_events(self):
        name = 'abcdefgh'
        made = ((name, 0),) * 101 + (('b', 0),) * 101 + ((name, 1),)
        told = picture(LONG, made)
        self.assertEqual(told[0], line('', name, 'b'))
        self.assertEqual(told[10], line('9', 'put stuvwxyz hijklmno 9', ''))
        self.assertEqual(told[101], line('100', 'put stuvwxyz hijklmno 100', ''))
        self.assertEqual(told[202], line('201', '', 'take stuvwxyz hijklmno 100'))
        self.assertEqual(told[203], line('202', 'do abcdefgh', ''))
        self.assertEqual({len(row) for row in told}, {3 + 27 + 27})

    def test_the_same_as_the_model(self):
        random = Random(41)
        for program in PROGRAMS + tuple(model.random_program(random) for _ in range(30)):
            for state in list(model.all_states(program, 3).values())[:40] + [model.random_state(program, random, 12)]:
                self.assertEqual(outcome(picture, program, tuple(state.events)), returned(lines_of(program, state)))

    def test_each_picture_is_a_list_of_its_own(self):
        first = picture(ASK, DONE)
        first.append('')
        self.assertEqual(len(picture(ASK, DONE)), 5)
        self.assertEqual(kinds_in(picture(ASK, DONE))[0], 'list')

    def test_made(self):
        for thing in NEVER + SOMETIMES + (list(DONE), DONE[1:], DONE + DONE, LIES, (('ann', False),), (('ann', 0, 0),)):
            if thing != ():
                self.assertEqual(outcome(picture, BOTH, thing), unusable('made'))


if __name__ == '__main__':
    unittest.main()
