"""[4], [6], [10], [21] to [23]: runs, what can follow them, and where they lead."""

import unittest
from random import Random

from ascalls.runs import contents_of, is_run, lets_run, next_steps, places_after, stand_after
from tests.model import State, all_states, all_tuples, arrows_of, random_program, stand_of
from tests.samples import (ASK, ASK_CALLED, BARE, BOTH, BOTH_CALLED, CHANNELS, DONE, EMPTY, LIES, MADE, MIXED, MIXED_BAGS,
                           MIXED_CALLS, NEVER, PROGRAMS, ROUND, ROUND_CALLED, SOMETIMES, TURN, TWO, TWO_BAG, TWO_CALLED,
                           mutants, outcome, paper, raised, returned, unusable, with_forms)

THINGS = NEVER + SOMETIMES
SMALL = (ASK, BOTH, TWO, ASK_CALLED, BOTH_CALLED, TWO_BAG, TWO_CALLED, with_forms(ASK, 'bag', 'call'))
# One letter name after the other, taken in the other order: a bag lets it, a queue does not.
PUT_AB = ('ann', (), ((0, ('put', 'q', 'a'), 0), (0, ('put', 'q', 'b'), 0)))
TAKE_AB = ('bob', (), ((0, ('take', 'q', 'a'), 0), (0, ('take', 'q', 'b'), 0)))
AB_QUEUE = ((PUT_AB, TAKE_AB), (('q', 'ann', 'bob', 'queue'),))
AB_BAG = with_forms(AB_QUEUE, 'bag')
AB_CALL = with_forms(AB_QUEUE, 'call')
PA, PB, TA, TB = ('ann', 0), ('ann', 1), ('bob', 0), ('bob', 1)


def random_programs(many, seed):
    """So many small programs, always the same ones."""
    random = Random(seed)
    return [random_program(random) for _ in range(many)]


class RunTests(unittest.TestCase):
    def check(self, program, thing, word, at):
        self.assertEqual(outcome(lets_run, program, thing), paper(word, at), thing)
        self.assertEqual(outcome(is_run, program, thing), returned(False), thing)
        self.assertEqual(outcome(next_steps, program, thing), unusable('made'))
        self.assertEqual(outcome(places_after, program, thing), unusable('made'))
        self.assertEqual(outcome(contents_of, program, thing), unusable('made'))
        self.assertEqual(outcome(stand_after, program, thing), unusable('made'))

    def right(self, program, thing, letters):
        self.assertEqual(outcome(lets_run, program, thing), returned(letters), thing)
        self.assertEqual(outcome(is_run, program, thing), returned(True), thing)

    def test_examples(self):
        self.assertEqual([lets_run(ASK, DONE), is_run(ASK, DONE[:3]), is_run(ASK, DONE[1:])], [2, True, False])
        self.assertEqual(outcome(lets_run, ASK, (DONE[0], DONE[3])), raised('InvalidPaper', word='channel', at=1))

    def test_runs(self):
        for program in PROGRAMS:
            self.right(program, (), 0)
        self.right(BOTH, (('ann', 0), ('bob', 0), ('ann', 1), ('bob', 1)), 2)
        self.right(ROUND, TURN, 3)
        self.right(TWO, LIES, 2)
        self.right(TWO, MADE, 2)
        self.right(ASK_CALLED, DONE, 2)
        self.right(BOTH_CALLED, (), 0)
        self.assertEqual(lets_run(thing=DONE, program=ASK), 2)
        self.assertTrue(is_run(thing=DONE, program=ASK))

    def test_shape(self):
        for thing in [thing for thing in THINGS if not isinstance(thing, tuple)] + [list(DONE), 'ann']:
            self.check(ASK, thing, 'shape', -1)

    def test_event(self):
        for thing in [thing for thing in THINGS if thing != ()] + [
                (), ('ann',), ('ann', 0, 0), ['ann', 0], ('ann', 2), ('ann', -1), ('ann', True), ('ann', False), ('ann', None),
                ('ann', '0'), ('cid', 0), (['ann'], 0), (0, 'ann'), (('ann', 0),), ('ann', (0,)), ('ann', [0]), (None, 0)]:
            self.check(ASK, (thing,), 'event', 0)
            self.check(ASK, DONE[:2] + (thing,), 'event', 2)
            self.check(ASK, DONE[:2] + (thing, None), 'event', 2)
        self.check(EMPTY, (('ann', 0),), 'event', 0)
        self.check(BARE, (('a', 0),), 'event', 0)

    def test_every_position(self):
        things = [thing for thing in NEVER if not isinstance(thing, tuple)]
        for path, changed in mutants(DONE, things):
            if path == ():
                self.check(ASK, changed, 'shape', -1)
            else:
                self.check(ASK, changed, 'event', path[0])

    def test_place(self):
        self.check(ASK, (('ann', 1),), 'place', 0)
        self.check(ASK, (('ann', 0), ('ann', 0)), 'place', 1)
        self.check(ASK, (('ann', 0), ('bob', 1)), 'place', 1)
        self.check(ASK, DONE + (('bob', 0),), 'place', 4)
        self.check(ASK, (('bob', 1), None), 'place', 0)
        self.check(MIXED, (('ann', 2),), 'place', 0)

    def test_queue(self):
        self.check(ASK, (('bob', 0),), 'channel', 0)
        self.check(AB_QUEUE, (PA, TB), 'channel', 1)
        self.check(AB_QUEUE, (PA, PB, TB), 'channel', 2)
        self.check(AB_QUEUE, (PB, PA, TA), 'channel', 2)
        self.check(AB_QUEUE, (PA, TA, TA), 'channel', 2)
        self.check(AB_QUEUE, (PA, PA, TA, TA, TA), 'channel', 4)
        self.right(AB_QUEUE, (PA, PB, PA, TA, TB, TA), 3)

    def test_bag(self):
        self.check(AB_BAG, (TA,), 'channel', 0)
        self.check(AB_BAG, (PA, TB), 'channel', 1)
        self.check(AB_BAG, (PA, PB, TB, TB), 'channel', 3)
        self.right(AB_BAG, (PA, PB, TB, TA), 2)
        self.right(AB_BAG, (PA, PA, PB, TB, PB, TA, TB, TA), 4)

    def test_call(self):
        self.right(AB_CALL, (PA, TA, PB, TB, PA, TA), 3)
        for rest in ((), (TB,), (PA,), (PA, TA), (None,), (('bob', 2),), (('bob', True),), (['bob', 0],), (('cid', 0),), (True,)):
            self.check(AB_CALL, (PA,) + rest, 'channel', 0)
            self.check(AB_CALL, (PB, TB, PA) + rest, 'channel', 2)
        self.check(AB_CALL, (TA,), 'channel', 0)
        self.check(AB_CALL, (TA, PA), 'channel', 0)
        self.check(AB_CALL, (PA, TA, TA), 'channel', 2)
        self.check(AB_CALL, (PA, PA, TA, TA), 'channel', 0)
        self.check(AB_CALL, (PA, PB, TB, TA), 'channel', 0)

    def test_call_where_the_taker_is_elsewhere(self):
        # ann may put at once, but bob can only take after his nap.
        program = ((('ann', (), ((0, ('put', 'q', 'a'), 0),)), ('bob', (), ((0, ('do', 'nap'), 1), (1, ('take', 'q', 'a'), 0)))),
                   (('q', 'ann', 'bob', 'call'),))
        self.check(program, (('ann', 0), ('bob', 1)), 'channel', 0)
        self.check(program, (('ann', 0), ('bob', 0)), 'channel', 0)
        self.check(program, (('ann', 0), ('bob', 0), ('bob', 1)), 'channel', 0)
        self.right(program, (('bob', 0), ('ann', 0), ('bob', 1)), 1)
        self.check(program, (('bob', 0), ('bob', 1)), 'channel', 1)

    def test_call_and_another_channel_with_the_same_letter(self):
        program = ((('ann', (), ((0, ('put', 'q', 'a'), 0), (0, ('put', 'r', 'a'), 0))),
                    ('bob', (), ((0, ('take', 'q', 'a'), 0), (0, ('take', 'r', 'a'), 0)))),
                   (('q', 'ann', 'bob', 'call'), ('r', 'ann', 'bob', 'queue')))
        self.check(program, (('ann', 0), ('bob', 1)), 'channel', 0)
        self.check(program, (('ann', 1), ('ann', 0), ('bob', 1), ('bob', 0)), 'channel', 1)
        self.check(program, (('ann', 1), ('bob', 0)), 'channel', 1)
        self.right(program, (('ann', 1), ('ann', 0), ('bob', 0), ('bob', 1)), 2)

    def test_first_entry_that_applies(self):
        self.check(ASK, (None, ('ann', 1)), 'event', 0)
        self.check(ASK, (('ann', 1), None), 'place', 0)
        self.check(ASK, (('bob', 0), None), 'channel', 0)
        self.check(ASK_CALLED, (('ann', 0), None), 'channel', 0)
        self.check(ASK, [None], 'shape', -1)

    def test_the_same_runs_as_the_model(self):
        for program in SMALL:
            states = all_states(program, 4)
            for size in range(5):
                for thing in all_tuples(program, size):
                    self.compare(program, thing, states)
        for program in (ROUND, ROUND_CALLED):
            states = all_states(program, 3)
            for size in range(4):
                for thing in all_tuples(program, size):
                    self.compare(program, thing, states)

    def test_the_same_runs_as_the_model_for_other_programs(self):
        for program in (MIXED, MIXED_BAGS, MIXED_CALLS, AB_QUEUE, AB_BAG, AB_CALL) + tuple(random_programs(60, 5)):
            states = all_states(program, 3)
            for size in range(4):
                for thing in list(all_tuples(program, size))[:1000]:
                    self.compare(program, thing, states)

    def compare(self, program, thing, states):
        if thing in states:
            self.assertEqual(lets_run(program, thing), len(states[thing].letters))
            self.assertTrue(is_run(program, thing))
            return
        self.assertFalse(is_run(program, thing))
        # The longest run at the beginning tells where the first wrong element stands.
        at = max(k for k in range(len(thing)) if thing[:k] in states)
        state, arrow = states[thing[:at]], arrows_of(program)[thing[at]]
        word = 'place' if arrow[0] != state.places[thing[at][0]] else 'channel'
        self.assertEqual(outcome(lets_run, program, thing), paper(word, at), (program, thing))


class AfterTests(unittest.TestCase):
    def test_examples(self):
        called = (ASK[0], (CHANNELS[0], ('out', 'ann', 'bob', 'call')))
        self.assertEqual([next_steps(BOTH, (('bob', 0),)), next_steps(called, ())], [((('ann', 0),),), ((('ann', 0), ('bob', 0)),)])
        found = [places_after(TWO, LIES), contents_of(TWO, LIES), stand_after(TWO, LIES)]
        self.assertEqual(found, [(2, 0), (('hi', 'hi'),), ((2, 0), (('hi',),))])

    def test_nothing(self):
        self.assertEqual(outcome(next_steps, EMPTY, ()), returned(()))
        self.assertEqual(outcome(places_after, EMPTY, ()), returned(()))
        self.assertEqual(outcome(contents_of, EMPTY, ()), returned(()))
        self.assertEqual(outcome(stand_after, EMPTY, ()), returned(((), ())))
        self.assertEqual(outcome(stand_after, BARE, ()), returned(((0, 0), ((),))))

    def test_heads_and_contents(self):
        made = (PB, PA, PB, PA)
        self.assertEqual(contents_of(AB_QUEUE, made), (('b', 'a', 'b', 'a'),))
        self.assertEqual(contents_of(AB_BAG, made), (('b', 'a', 'b', 'a'),))
        self.assertEqual(stand_after(AB_QUEUE, made), ((0, 0), (('b',),)))
        self.assertEqual(stand_after(AB_BAG, made), ((0, 0), (('a', 'b'),)))
        self.assertEqual(contents_of(AB_BAG, made + (TA,)), (('b', 'b', 'a'),))
        self.assertEqual(stand_after(AB_CALL, (PA, TA)), ((0, 0), ((),)))
        self.assertEqual(next_steps(AB_QUEUE, made), ((PA,), (PB,), (TB,)))
        self.assertEqual(next_steps(AB_BAG, made), ((PA,), (PB,), (TA,), (TB,)))
        self.assertEqual(next_steps(AB_CALL, ()), ((PA, TA), (PB, TB)))

    def test_several_takes_for_one_put(self):
        taker = ('bob', (), ((0, ('take', 'q', 'a'), 1), (1, ('take', 'q', 'a'), 0), (0, ('take', 'q', 'a'), 0)))
        program = ((PUT_AB, taker), (('q', 'ann', 'bob', 'call'),))
        self.assertEqual(next_steps(program, ()), ((PA, ('bob', 0)), (PA, ('bob', 2))))
        self.assertEqual(next_steps(program, (PA, ('bob', 0))), ((PA, ('bob', 1)),))

    def test_the_same_as_the_model(self):
        programs = PROGRAMS + (AB_QUEUE, AB_BAG, AB_CALL) + tuple(random_programs(60, 6))
        for program in programs:
            for made, state in list(all_states(program, 4).items())[:200]:
                steps = outcome(next_steps, program, made)
                self.assertEqual(steps, returned(tuple(state.steps())))
                places = tuple(state.places[party[0]] for party in program[0])
                self.assertEqual(outcome(places_after, program, made), returned(places))
                lying = tuple(tuple(row[0] for row in state.lying[channel[0]]) for channel in program[1])
                self.assertEqual(outcome(contents_of, program, made), returned(lying))
                self.assertEqual(outcome(stand_after, program, made), returned(stand_of(state)))

    def test_consequences(self):
        for program in PROGRAMS + tuple(random_programs(20, 7)):
            for made in list(all_states(program, 4))[:100]:
                for step in next_steps(program, made):
                    self.assertTrue(is_run(program, made + step))
                steps = [made[-1:], made[-2:]]
                ends = [step for step in steps if made and is_run(program, made[:-len(step)])]
                self.assertTrue(made == () or any(step in next_steps(program, made[:-len(step)]) for step in ends))

    def test_eighty_events(self):
        for program in (AB_QUEUE, AB_BAG):
            made = (PA, PB) * 30 + (TA, TB) * 10
            self.assertEqual(lets_run(program, made), 60)
            self.assertEqual(contents_of(program, made), (('a', 'b') * 20,))
        made = (PA, PB) * 200 + (TA, TB) * 200
        self.assertEqual(lets_run(AB_QUEUE, made), 400)
        self.assertEqual(contents_of(AB_QUEUE, made), ((),))

    def test_by_name(self):
        self.assertEqual(next_steps(made=(), program=ASK), ((('ann', 0),),))
        self.assertEqual(places_after(made=DONE, program=ASK), (2, 2))
        self.assertEqual(contents_of(made=DONE[:1], program=ASK), ((), ('hi',)))
        self.assertEqual(stand_after(made=DONE[:1], program=ASK), ((1, 0), ((), ('hi',))))

    def test_the_model_begins_at_place_0(self):
        self.assertEqual(stand_of(State(ASK)), stand_after(ASK, ()))


if __name__ == '__main__':
    unittest.main()
