"""[32]: a leader, its steps, what it takes back, and its trials."""

import unittest
from random import Random

from ascalls.errors import NothingToUndo, NotUsable
from ascalls.leaders import Leader
from ascalls.runs import next_steps, stand_after
from tests import model
from tests.samples import (ASK, ASK_CALLED, BOTH, EMPTY, MIXED, NEVER, PROGRAMS, ROUND, SOMETIMES, TWO, TWO_BAG, kinds_in, outcome,
                           raised, returned, unusable)

THINGS = NEVER + SOMETIMES
FIRST = (('ann', 0),)
SECOND = (('bob', 0),)
THIRD = (('bob', 1),)
FOURTH = (('ann', 1),)
ALL = (FIRST, SECOND, THIRD, FOURTH)
# No value here is a step that is possible for ASK at the beginning.
NO_STEP = THINGS + (('ann', 0), (('ann', False),), [('ann', 0)], (['ann', 0],), (('ann', 1),), (('bob', 0),), (('ann', 0),) * 2,
                    (('ann', 0), ('bob', 0)), (('ann', 0, 0),), (('cid', 0),), (FIRST,), 'ann 0', (('ann', 0), None), ((('ann', 0),),))


def led(program, *steps):
    """A leader after these steps."""
    leader = Leader(program)
    for step in steps:
        leader.go(step)
    return leader


def state_of(leader):
    """All that a leader tells, with kinds."""
    return kinds_in((leader.program, leader.events_now, leader.next_step, len(leader)))


class LeaderTests(unittest.TestCase):
    def test_example(self):
        leader = Leader(ASK)
        told = [leader.next_step, leader.go((('ann', 0),)), leader.tried(((('bob', 0),), (('bob', 1),)))]
        self.assertEqual(told, [((('ann', 0),),), ((1, 0), ((), ('hi',))), (('ann', 0), ('bob', 0), ('bob', 1))])
        told = [leader.events_now, len(leader), leader.undo(), leader.events_now]
        self.assertEqual(told, [(('ann', 0),), 1, ((('ann', 0),),), ()])

    def test_at_first(self):
        for program in PROGRAMS:
            leader = Leader(program)
            self.assertEqual(leader.program, program)
            self.assertIn('program', vars(leader))
            self.assertEqual(state_of(leader), kinds_in((program, (), next_steps(program, ()), 0)))
        self.assertEqual(Leader(program=ASK).events_now, ())
        self.assertEqual(Leader(EMPTY).next_step, ())

    def test_steps(self):
        random = Random(61)
        for program in PROGRAMS + tuple(model.random_program(random) for _ in range(20)):
            leader = Leader(program)
            state = model.State(program)
            count = 0
            while state.steps() and count < 10:
                self.assertEqual(leader.next_step, tuple(state.steps()))
                step = random.choice(state.steps())
                state = state.do(step)
                way = count % 3
                if way == 0:
                    self.assertEqual(kinds_in(leader.go(step)), kinds_in(model.stand_of(state)))
                elif way == 1:
                    leader.next_step = step
                else:
                    same = leader
                    leader += step
                    self.assertIs(leader, same)
                count += 1
                self.assertEqual(leader.events_now, tuple(state.events))
                self.assertEqual(len(leader), count)

    def test_a_step_on_a_call_is_one_step(self):
        leader = led(ASK_CALLED, (('ann', 0), ('bob', 0)))
        self.assertEqual((len(leader), leader.events_now), (1, (('ann', 0), ('bob', 0))))
        self.assertEqual(outcome(leader.undo), returned(((('ann', 0), ('bob', 0)),)))
        self.assertEqual(outcome(leader.go, (('ann', 0),)), unusable('step'))
        self.assertEqual(outcome(leader.go, (('bob', 0), ('ann', 0))), unusable('step'))
        for step in ((('ann', 0), ('bob', False)), (('ann', False), ('bob', 0)), (('ann', 0), ['bob', 0]), (('ann', 0), None)):
            self.assertEqual(outcome(Leader(ASK_CALLED).go, step), unusable('step'))
            self.assertEqual(outcome(Leader(ASK_CALLED).tried, (step,)), unusable('steps', 0))

    def test_no_step(self):
        def assign(leader, thing):
            leader.next_step = thing

        def add(leader, thing):
            leader += thing

        for steps in ((), (FIRST, SECOND)):
            leader = led(ASK, *steps)
            before = state_of(leader)
            for thing in NO_STEP + (FIRST,) * len(steps):
                self.assertEqual(outcome(leader.go, thing), unusable('step'))
                with self.assertRaises(NotUsable) as told:
                    assign(leader, thing)
                self.assertEqual(vars(told.exception), {'word': 'step', 'at': -1})
                with self.assertRaises(NotUsable) as told:
                    add(leader, thing)
                self.assertEqual(vars(told.exception), {'word': 'step', 'at': -1})
                self.assertEqual(state_of(leader), before)

    def test_go_by_name(self):
        self.assertEqual(Leader(ASK).go(step=FIRST), stand_after(ASK, FIRST))
        self.assertEqual(led(ASK, *ALL).undo(steps=2), ALL[2:])
        self.assertEqual(Leader(ASK).tried(steps=ALL), sum(ALL, ()))


class UndoTests(unittest.TestCase):
    def test_undo(self):
        for many in range(5):
            leader = led(ASK, *ALL)
            self.assertEqual(outcome(leader.undo, many), returned(ALL[4 - many:]))
            self.assertEqual(state_of(leader), state_of(led(ASK, *ALL[:4 - many])))
        leader = led(ASK, *ALL)
        self.assertEqual(outcome(leader.undo), returned(ALL[3:]))
        self.assertEqual(outcome(leader.undo, 0), returned(()))
        self.assertEqual(len(leader), 3)
        self.assertEqual(leader.go(FOURTH), ((2, 2), ((), ())))

    def test_no_number(self):
        leader = led(ASK, *ALL)
        for thing in NEVER + ('hi', 'ann', (), (0,), ((),), -10 ** 59, FIRST):
            self.assertEqual(outcome(leader.undo, thing), unusable('steps'))
        self.assertEqual(state_of(leader), state_of(led(ASK, *ALL)))

    def test_too_many(self):
        leader = led(ASK, *ALL)
        for many in (5, 6, 10 ** 60 - 1):
            self.assertEqual(outcome(leader.undo, many), raised('NothingToUndo', steps=many))
        self.assertEqual(state_of(leader), state_of(led(ASK, *ALL)))
        self.assertEqual(outcome(Leader(ASK).undo), raised('NothingToUndo', steps=1))
        self.assertEqual(outcome(Leader(ASK).undo, 0), returned(()))


class TrialTests(unittest.TestCase):
    def test_trial(self):
        leader = led(ASK, FIRST)
        with leader.trial() as same:
            self.assertIs(same, leader)
            leader.go(SECOND)
            same += THIRD
            self.assertEqual(len(leader), 3)
            self.assertEqual(leader.undo(), (THIRD,))
            leader.next_step = THIRD
            leader.go(FOURTH)
            self.assertEqual(leader.events_now, sum(ALL, ()))
        self.assertEqual(state_of(leader), state_of(led(ASK, FIRST)))
        self.assertEqual(leader.undo(), (FIRST,))

    def test_trial_without_as_and_without_steps(self):
        leader = led(ASK, FIRST, SECOND)
        with leader.trial():
            pass
        self.assertEqual(state_of(leader), state_of(led(ASK, FIRST, SECOND)))
        with leader.trial():
            self.assertEqual(leader.undo(0), ())
        self.assertEqual(leader.undo(2), (FIRST, SECOND))

    def test_undo_within_a_trial(self):
        leader = led(ASK, FIRST, SECOND)
        with leader.trial():
            self.assertEqual(outcome(leader.undo), raised('NothingToUndo', steps=1))
            self.assertEqual(outcome(leader.undo, 0), returned(()))
            leader.go(THIRD)
            self.assertEqual(outcome(leader.undo, 2), raised('NothingToUndo', steps=2))
            self.assertEqual(outcome(leader.undo, -1), unusable('steps'))
            self.assertEqual(outcome(leader.undo, 1), returned((THIRD,)))
            self.assertEqual(outcome(leader.undo, 1), raised('NothingToUndo', steps=1))
        self.assertEqual(leader.undo(2), (FIRST, SECOND))

    def test_trials_within_trials(self):
        leader = led(ASK, FIRST)
        with leader.trial() as outer:
            outer.go(SECOND)
            with leader.trial() as inner:
                self.assertIs(inner, leader)
                self.assertEqual(outcome(leader.undo), raised('NothingToUndo', steps=1))
                inner.go(THIRD)
                with leader.trial():
                    leader.go(FOURTH)
                    self.assertEqual(outcome(leader.undo, 2), raised('NothingToUndo', steps=2))
                    self.assertEqual(leader.undo(), (FOURTH,))
                self.assertEqual(leader.undo(), (THIRD,))
                self.assertEqual(outcome(leader.undo), raised('NothingToUndo', steps=1))
            self.assertEqual(leader.events_now, FIRST + SECOND)
            self.assertEqual(leader.undo(), (SECOND,))
            self.assertEqual(outcome(leader.undo), raised('NothingToUndo', steps=1))
            with leader.trial():
                leader.go(SECOND)
                leader.go(THIRD)
            self.assertEqual(leader.events_now, FIRST)
        self.assertEqual(state_of(leader), state_of(led(ASK, FIRST)))

    def test_an_error_raised_within(self):
        leader = led(ASK, FIRST)
        with self.assertRaises(KeyError):
            with leader.trial():
                leader.go(SECOND)
                raise KeyError('any')
        self.assertEqual(state_of(leader), state_of(led(ASK, FIRST)))
        with self.assertRaises(NotUsable):
            with leader.trial() as same:
                same.go(SECOND)
                with leader.trial():
                    same.go(THIRD)
                    same.go(THIRD)
        self.assertEqual(state_of(leader), state_of(led(ASK, FIRST)))
        self.assertEqual(leader.undo(), (FIRST,))
        with self.assertRaises(NothingToUndo):
            leader.undo()

    def test_an_error_raised_within_and_caught_in_the_outer_trial(self):
        leader = Leader(ASK)
        with leader.trial():
            leader.go(FIRST)
            try:
                with leader.trial():
                    leader.go(SECOND)
                    leader.go(None)
            except NotUsable:
                pass
            self.assertEqual(leader.events_now, FIRST)
            self.assertEqual(leader.undo(), (FIRST,))
        self.assertEqual(len(leader), 0)

    def test_a_trial_left_by_return_or_break(self):
        leader = led(ASK, FIRST)

        def look():
            with leader.trial() as same:
                return same.go(SECOND)

        self.assertEqual(look(), ((1, 1), ((), ())))
        for step in (SECOND, THIRD):
            with leader.trial():
                leader.go(step if len(leader) > 1 else SECOND)
                break
        self.assertEqual(state_of(leader), state_of(led(ASK, FIRST)))

    def test_two_leaders(self):
        first, second = Leader(ASK), Leader(ASK)
        with first.trial():
            second.go(FIRST)
            first.go(FIRST)
        self.assertEqual((len(first), len(second)), (0, 1))


class TriedTests(unittest.TestCase):
    def test_tried(self):
        random = Random(67)
        for program in PROGRAMS:
            for _ in range(4):
                state = model.State(program)
                steps = []
                while state.steps() and len(steps) < 8:
                    steps.append(random.choice(state.steps()))
                    state = state.do(steps[-1])
                for k in range(len(steps) + 1):
                    leader = led(program, *steps[:k])
                    before = state_of(leader)
                    self.assertEqual(outcome(leader.tried, tuple(steps[k:])), returned(tuple(state.events)))
                    self.assertEqual(state_of(leader), before)

    def test_no_tuple(self):
        leader = led(ASK, FIRST)
        for thing in NEVER + (0, 1, 'hi', [SECOND], 'ann 0'):
            if not isinstance(thing, tuple):
                self.assertEqual(outcome(leader.tried, thing), unusable('steps'))
        self.assertEqual(outcome(leader.tried, ()), returned(FIRST))

    def test_first_wrong_element(self):
        for k in range(4):
            leader = led(ASK, *ALL[:1])
            for thing in THINGS + (('bob', 0), [('bob', 0)], (('bob', False),), (('bob', True),), FIRST, (('cid', 0),), (['bob', 0],)):
                steps = ALL[1:1 + k] + (thing, None)
                self.assertEqual(outcome(leader.tried, steps), unusable('steps', k))
                self.assertEqual(state_of(leader), state_of(led(ASK, FIRST)))
        self.assertEqual(outcome(Leader(ASK).tried, ALL + (FIRST,)), unusable('steps', 4))
        self.assertEqual(outcome(Leader(ASK).tried, ALL[1:]), unusable('steps', 0))

    def test_within_a_trial(self):
        leader = led(TWO, (('ann', 0),))
        with leader.trial():
            leader.go((('ann', 1),))
            self.assertEqual(leader.tried(((('bob', 0),),)), (('ann', 0), ('ann', 1), ('bob', 0)))
            self.assertEqual(outcome(leader.tried, (((),),)), unusable('steps', 0))
            self.assertEqual(outcome(leader.undo, 2), raised('NothingToUndo', steps=2))
            self.assertEqual(leader.undo(), ((('ann', 1),),))
        self.assertEqual(len(leader), 1)


class RandomTests(unittest.TestCase):
    def test_against_a_list_of_steps(self):
        random = Random(71)
        for program in (ASK, BOTH, ROUND, TWO_BAG, MIXED, ASK_CALLED):
            for _ in range(20):
                leader = Leader(program)
                self.wander(leader, [], 0, random, 3)

    def wander(self, leader, steps, floor, random, depth):
        """Do what comes to mind, and compare with a list of steps."""
        for _ in range(8):
            possible = leader.next_step
            choice = random.choice(('go', 'go', 'undo', 'wrong', 'trial'))
            if choice == 'go' and possible:
                steps.append(random.choice(possible))
                leader.go(steps[-1])
            elif choice == 'undo':
                many = random.randint(0, 3)
                if many > len(steps) - floor:
                    self.assertEqual(outcome(leader.undo, many), raised('NothingToUndo', steps=many))
                else:
                    left = len(steps) - many
                    self.assertEqual(leader.undo(many), tuple(steps[left:]))
                    del steps[left:]
            elif choice == 'wrong':
                self.assertEqual(outcome(leader.go, (('ann', 99),)), unusable('step'))
            elif choice == 'trial' and depth:
                with leader.trial():
                    self.wander(leader, list(steps), len(steps), random, depth - 1)
            self.assertEqual(leader.events_now, tuple(event for step in steps for event in step))
            self.assertEqual(len(leader), len(steps))


if __name__ == '__main__':
    unittest.main()
