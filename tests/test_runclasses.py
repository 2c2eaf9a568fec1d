"""[30], [31]: runs as values, their texts and operators, and the consequences."""

import unittest
from itertools import product
from random import Random

from ascalls.errors import InvalidPaper, InvalidText, NotUsable
from ascalls.letters import letters_of
from ascalls.runclasses import Run
from ascalls.runs import lets_run, next_steps, stand_after
from tests import model
from tests.samples import (ASK, ASK_CALLED, BARE, BOTH, BOTH_CALLED, DONE, EMPTY, LIES, MADE, MIXED, NEVER, PROGRAMS, ROUND,
                           ROUND_CALLED, SOMETIMES, TURN, TWO, TWO_BAG, TWO_CALLED, kinds_in, mutants, outcome, paper, raised,
                           returned, unusable, with_forms)
from tests.test_letters import CROSS, MANY

THINGS = NEVER + SOMETIMES
SMALL = (ASK, BOTH, TWO, TWO_BAG, TWO_CALLED, ROUND, ROUND_CALLED, ASK_CALLED, BOTH_CALLED, EMPTY, BARE)
# Each party chooses; on the call both have to choose the same letter.
CHOICE = ((('ann', (), ((0, ('put', 'c', 'a'), 1), (0, ('put', 'c', 'b'), 1), (1, ('put', 'q', 'a'), 2))),
           ('bob', (), ((0, ('take', 'c', 'b'), 1), (0, ('take', 'c', 'a'), 1), (0, ('do', 'nap'), 0), (1, ('take', 'q', 'a'), 1)))),
          (('c', 'ann', 'bob', 'call'), ('q', 'ann', 'bob', 'queue')))
BAGS = ((('ann', (), ((0, ('put', 'q', 'a'), 1), (1, ('put', 'q', 'b'), 2), (2, ('put', 'q', 'a'), 3))),
         ('bob', (), ((0, ('take', 'q', 'a'), 0), (0, ('take', 'q', 'b'), 0)))), (('q', 'ann', 'bob', 'bag'),))


def parts(run):
    """The events of each party, by the model."""
    return model.by_party(run.program, run.events)


def is_within(run, other):
    """Whether run <= other by the words of the document."""
    if run.program != other.program:
        return False
    return all(part == longer[:len(part)] for part, longer in zip(parts(run), parts(other)))


def runs_of(program, most, many=400):
    """Runs of at most so many events, as objects."""
    return [Run(program, made) for made in list(model.all_states(program, most))[:many]]


def classes_of(runs):
    """One of each kind of alike runs."""
    found = {}
    for run in runs:
        found.setdefault(parts(run), run)
    return list(found.values())


class RunTests(unittest.TestCase):
    def test_example(self):
        early, late = Run(TWO, MADE), Run(TWO, (('ann', 0), ('bob', 0)))
        told = [late <= early, early <= late, late + (('ann', 1),) == early, len(early & late), late[1], ('ann', 1) in late, str(late)]
        self.assertEqual(told, [True, False, True, 2, ('bob', 0), False, 'ann 0\nbob 0'])
        self.assertEqual(outcome(Run.read, TWO, 'ann 0\nbob 00'), raised('InvalidText', line=1, field=1))

    def test_made(self):
        run = Run(ASK, DONE)
        self.assertEqual((run.program, run.events), (ASK, DONE))
        self.assertIn('program', vars(run))
        self.assertIn('events', vars(run))
        self.assertEqual(Run(ASK).events, ())
        self.assertEqual(Run(events=DONE, program=ASK).events, DONE)
        self.assertEqual(Run(EMPTY).program, EMPTY)

    def test_errors_of_the_checker(self):
        for _, changed in mutants(DONE):
            expected = outcome(lets_run, ASK, changed)
            if expected[0] == 'raises':
                self.assertEqual(outcome(Run, ASK, changed), expected)
            else:
                self.assertEqual(kinds_in(Run(ASK, changed).events), kinds_in(changed))
        self.assertEqual(outcome(Run, ASK, list(DONE)), paper('shape', -1))
        self.assertEqual(outcome(Run, ASK, None), paper('shape', -1))
        self.assertEqual(outcome(Run, ASK, (DONE[0], DONE[3])), paper('channel', 1))
        self.assertEqual(outcome(Run, ASK, (('ann', True),)), paper('event', 0))

    def test_properties(self):
        for program in PROGRAMS:
            for run in runs_of(program, 3, 60):
                self.assertEqual(kinds_in(run.letters_now), kinds_in(letters_of(program, run.events)))
                self.assertEqual(kinds_in(run.stand_now), kinds_in(stand_after(program, run.events)))

    def test_len_and_truth(self):
        for program in PROGRAMS:
            for run in runs_of(program, 3, 60):
                self.assertEqual(len(run), len(run.events))
                self.assertIs(bool(run), run.events != ())
        self.assertFalse(Run(EMPTY))
        self.assertTrue(Run(ASK, DONE[:1]))

    def test_item(self):
        run = Run(ASK, DONE)
        self.assertEqual([run[k] for k in range(4)], list(DONE))
        for thing in NEVER + (4, 5, 10 ** 59, -1, -4, 'hi', 'ann', (), (0,), ('ann', 0)):
            self.assertEqual(outcome(run.__getitem__, thing), unusable('at'), thing)
        self.assertEqual(outcome(Run(ASK).__getitem__, 0), unusable('at'))

    def test_iteration(self):
        self.assertEqual(list(Run(ASK, DONE)), list(DONE))
        self.assertEqual(list(iter(Run(ASK))), [])
        self.assertEqual(tuple(Run(ROUND, TURN)), TURN)

    def test_contains(self):
        run = Run(ASK, DONE[:3])
        for event in DONE[:3]:
            self.assertIs(event in run, True)
        for thing in THINGS + (('ann', 1), ('ann', False), ('bob', True), ['ann', 0], ('ann', 0, 0), ('ann',), 'ann', 0, DONE[:1],
                               ('cid', 0), run, ('ann', [0])):
            self.assertIs(thing in run, False, thing)
        self.assertIs(('ann', 0) in Run(ASK), False)

    def test_text(self):
        self.assertEqual(str(Run(ASK)), '')
        self.assertEqual(str(Run(ASK, DONE[:1])), 'ann 0')
        self.assertEqual(str(Run(ASK, DONE)), 'ann 0\nbob 0\nbob 1\nann 1')

    def test_a_run_never_changes(self):
        run = Run(TWO, MADE)
        other = Run(TWO, LIES)
        before = [kinds_in((run.program, run.events)), kinds_in(parts(run)), str(run)]
        for action in (lambda: run + (('bob', 1),), lambda: run + (('bob', 7),), lambda: run + [], lambda: run & other,
                       lambda: run & 5, lambda: run == other, lambda: run <= other, lambda: run >= other, lambda: run[0],
                       lambda: run[9], lambda: list(run), lambda: ('ann', 0) in run, lambda: len(run), lambda: run.letters_now,
                       lambda: run.stand_now, lambda: Run.read(TWO, str(run)), lambda: run.read(TWO, 'x')):
            try:
                action()
            except (InvalidPaper, InvalidText, NotUsable):
                pass
            self.assertEqual([kinds_in((run.program, run.events)), kinds_in(parts(run)), str(run)], before)
        for name in ('letters_now', 'stand_now'):
            with self.assertRaises(AttributeError):
                setattr(run, name, ())
        with self.assertRaises(TypeError):
            run[0] = ('ann', 0)
        with self.assertRaises(TypeError):
            del run[0]
        kept = run
        run += (('bob', 1),)
        self.assertEqual((kept.events, run.events), (MADE, MADE + (('bob', 1),)))
        run &= kept
        self.assertEqual((kept.events, run), (MADE, kept))


class ReadTests(unittest.TestCase):
    def check(self, text, line, field):
        self.assertEqual(outcome(Run.read, ASK, text), raised('InvalidText', line=line, field=field), repr(text))

    def check_line(self, line, field):
        """This line is wrong at this field, wherever it stands, and whatever follows."""
        self.check(line, 0, field)
        self.check('ann 0\n' + line, 1, field)
        self.check('zed 9\nann 0\n' + line + '\n', 2, field)
        self.check(line + '\n\nbad', 0, field)

    def test_what_is_written_is_read(self):
        for program in PROGRAMS:
            for run in runs_of(program, 4, 80):
                made = Run.read(program, str(run))
                self.assertIs(type(made), Run)
                self.assertEqual(kinds_in((made.program, made.events)), kinds_in((program, run.events)))
        self.assertEqual(Run.read(text='ann 0', program=ASK).events, DONE[:1])
        self.assertEqual(Run.read(ASK, '').events, ())
        self.assertIsInstance(vars(Run)['read'], classmethod)

    def test_first_word(self):
        for word in ('', 'Ann', 'abcdefghi', 'a1', '0', '-', 'a,b', 'ann\t', '"ann"'):
            if word != '':
                self.check_line(word, 0)
            self.check_line(word + ' 0', 0)
            self.check_line(word + ' x y', 0)
        self.check_line(' ann 0', 0)
        self.check_line(' ', 0)

    def test_second_word(self):
        for word in ('', '-', '0,1', '00', '01', '-0', '-1', '+1', 'a', '0,', '1.0', '1_0', '0x1', '9' * 61, '1' + '0' * 60, '0' * 60):
            self.check_line('ann ' + word, 1)
            self.check_line('ann ' + word + ' 0', 1)
        self.check_line('ann  0', 1)
        self.check_line('ann ', 1)

    def test_missing_and_too_many(self):
        self.check_line('ann', 1)
        self.check_line('ann 0 0', 2)
        self.check_line('ann 0 ', 2)
        self.check_line('ann 0  ', 2)
        self.check_line('ann 0 ann 0', 2)

    def test_lines(self):
        self.check('\n', 0, 0)
        self.check('\n\n', 0, 0)
        self.check('ann 0\n', 1, 0)
        self.check('\nann 0', 0, 0)
        self.check('ann 0\n\nbob 0', 1, 0)
        self.check('ann 0\n bob 0', 1, 0)
        self.check('ann 0 \nbob 0', 0, 2)
        self.check('ann\n0', 0, 1)

    def test_then_the_errors_of_the_checker(self):
        self.assertEqual(outcome(Run.read, ASK, 'ann ' + '9' * 60), paper('event', 0))
        self.assertEqual(outcome(Run.read, ASK, 'zed 0'), paper('event', 0))
        self.assertEqual(outcome(Run.read, ASK, 'ann 0\nbob 1'), paper('place', 1))
        self.assertEqual(outcome(Run.read, ASK, 'bob 0\nann 1'), paper('channel', 0))
        self.assertEqual(outcome(Run.read, ASK, 'bob 0\nann 01'), raised('InvalidText', line=1, field=1))
        self.assertEqual(outcome(Run.read, EMPTY, 'ann 0'), paper('event', 0))


class OperatorTests(unittest.TestCase):
    def test_plus(self):
        run = Run(TWO, LIES)
        self.assertEqual((run + ()).events, LIES)
        self.assertIsNot(run + (), run)
        self.assertEqual((run + (('bob', 0),)).events, MADE)
        self.assertIs(type(run + ()), Run)
        self.assertEqual((run + ()).program, TWO)
        for program in PROGRAMS:
            for made in list(model.all_states(program, 3))[:60]:
                for k in range(len(made) + 1):
                    expected = outcome(lets_run, program, made[:k])
                    if expected[0] == 'returns':
                        self.assertEqual((Run(program, made[:k]) + made[k:]).events, made)

    def test_plus_wrong(self):
        run = Run(TWO, LIES)
        for thing in THINGS + (list(MADE[2:]), run, 'ann 0'):
            expected = unusable('events') if not isinstance(thing, tuple) else outcome(lets_run, TWO, LIES + thing)
            if thing != ():
                self.assertEqual(outcome(run.__add__, thing), expected)
        self.assertEqual(outcome(run.__add__, (('ann', 1),)), paper('place', 2))
        self.assertEqual(outcome(run.__add__, (('bob', 0), ('bob', 7))), paper('event', 3))
        self.assertEqual(outcome(Run(ASK_CALLED).__add__, (('ann', 0),)), paper('channel', 0))

    def test_equal(self):
        for program in SMALL + (CHOICE, BAGS):
            runs = runs_of(program, 4, 80)
            for run, other in product(runs, repeat=2):
                self.assertIs(run == other, parts(run) == parts(other))
                self.assertIs(run != other, parts(run) != parts(other))

    def test_equal_runs_of_other_programs(self):
        for first, second in product(SMALL, repeat=2):
            self.assertIs(Run(first) == Run(second), first == second)
            self.assertIs(Run(first) <= Run(second), first == second)
            self.assertIs(Run(first) >= Run(second), first == second)
        bag = with_forms(TWO, 'bag')
        self.assertIs(Run(TWO, MADE) == Run(bag, MADE), False)
        self.assertIs(Run(TWO, LIES) <= Run(bag, MADE), False)
        self.assertIs(Run(TWO, MADE) >= Run(bag, LIES), False)

    def test_equal_to_no_other_value(self):
        run = Run(ASK, DONE)
        for thing in THINGS + (DONE, list(DONE), str(run), (ASK, DONE), {}):
            self.assertIs(run == thing, False)
            self.assertIs(thing == run, False)
            self.assertIs(run != thing, True)
        self.assertIs(Run(ASK) == (), False)

    def test_order(self):
        for program in SMALL + (CHOICE, BAGS):
            runs = runs_of(program, 4, 80)
            for run, other in product(runs, repeat=2):
                self.assertIs(run <= other, is_within(run, other))
                self.assertIs(run >= other, is_within(other, run))
                self.assertIs(run.__le__(other), is_within(run, other))
                self.assertIs(run.__ge__(other), is_within(other, run))
                self.assertIs(run == other, run <= other and other <= run)

    def test_order_tells_what_can_follow(self):
        """run <= other exactly if there are steps that can follow run so that it becomes equal to other."""
        for program in (ASK, BOTH, TWO, TWO_BAG, ASK_CALLED, CHOICE, BAGS):
            runs = runs_of(program, 4, 60)
            for run, other in product(runs, repeat=2):
                self.assertIs(run <= other, self.becomes(run, other))

    def becomes(self, run, other):
        level = [run]
        while level:
            if any(made == other for made in level):
                return True
            level = [made + step for made in level if len(made) < len(other) for step in next_steps(made.program, made.events)]
            level = classes_of(level)
        return False

    def test_meet(self):
        """A Run that is <= both, such that each Run that is <= both is <= it."""
        random = Random(43)
        for program in SMALL + (CHOICE, BAGS, MANY, MIXED):
            runs = classes_of(runs_of(program, 4, 150))
            pairs = list(product(runs, repeat=2))
            for run, other in random.sample(pairs, min(len(pairs), 200)):
                self.check_meet(run, other, runs)

    def test_meet_in_other_programs(self):
        random = Random(47)
        for _ in range(80):
            program = model.random_program(random)
            runs = classes_of(runs_of(program, 4, 200))
            for _ in range(20):
                self.check_meet(random.choice(runs), random.choice(runs), runs)

    def test_meet_of_longer_runs(self):
        random = Random(53)
        for program in (MANY, MIXED, CHOICE) + tuple(model.random_program(random) for _ in range(60)):
            runs = classes_of(runs_of(program, 3, 200))
            for _ in range(6):
                run, other = [Run(program, tuple(model.random_state(program, random, 9).events)) for _ in range(2)]
                self.check_meet(run, other, runs)

    def check_meet(self, run, other, runs):
        before = (run.events, other.events)
        met = run & other
        self.assertIs(type(met), Run)
        self.assertEqual(met.program, run.program)
        self.assertTrue(is_within(met, run) and is_within(met, other))
        for less in runs:
            if is_within(less, run) and is_within(less, other):
                self.assertTrue(is_within(less, met), (run.program, run.events, other.events))
        self.assertEqual(other & run, met)
        self.assertEqual((run.events, other.events), before)

    def test_meet_of_some(self):
        run, other = Run(ROUND, TURN), Run(ROUND, TURN[:2])
        self.assertEqual((run & other).events, TURN[:2])
        self.assertEqual((run & run), run)
        self.assertEqual((Run(ROUND) & run).events, ())
        # bob's take has no put left, so he does not get on either.
        first = Run(CHOICE, (('ann', 0), ('bob', 1), ('ann', 2), ('bob', 3)))
        second = Run(CHOICE, (('ann', 1), ('bob', 0), ('ann', 2), ('bob', 3)))
        self.assertEqual((first & second).events, ())
        naps = Run(CHOICE, (('bob', 2), ('ann', 0), ('bob', 1)))
        self.assertEqual((first & naps).events, ())
        self.assertEqual((naps & Run(CHOICE, (('bob', 2), ('bob', 2)))).events, (('bob', 2),))
        self.assertEqual((Run(BOTH, CROSS) & Run(BOTH, CROSS[1::-1])).events, CROSS[:2])

    def test_meet_wrong(self):
        run = Run(ASK, DONE)
        for thing in THINGS + (DONE, Run(BOTH), Run(ASK_CALLED), Run(EMPTY), str(run)):
            self.assertEqual(outcome(run.__and__, thing), unusable('other'))
        with self.assertRaises(NotUsable):
            run & DONE


class ReturnedTests(unittest.TestCase):
    def test_kinds(self):
        run = Run(ASK, DONE)
        self.assertEqual(outcome(run.__len__), returned(4))
        self.assertEqual(outcome(run.__str__), returned('ann 0\nbob 0\nbob 1\nann 1'))
        self.assertEqual(outcome(run.__contains__, ('ann', 0)), returned(True))
        self.assertEqual(outcome(run.__getitem__, 3), returned(('ann', 1)))


if __name__ == '__main__':
    unittest.main()
