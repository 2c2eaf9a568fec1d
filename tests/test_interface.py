"""The interface: names, modules, the order of parameters, and where functions and methods are defined."""

import importlib
import inspect
import unittest

FUNCTIONS = {
    'kinds': ['is_integer(thing)', 'is_number(thing)', 'is_name(thing)', 'is_doing(thing)', 'is_arrow(thing)',
              'is_channel(thing)', 'is_party(thing)', 'is_program(thing)', 'is_event(thing)'],
    'programchecker': ['lets_program(thing)'],
    'programparts': ['arrows_from(program, party, place)', 'doing_of(program, event)', 'channel_of(program, name)',
                     'channels_between(program, party, other)', 'letters_on(program, name)', 'places_of(program, party)'],
    'programchanges': ['with_channel(program, channel)', 'without_channel(program, name)', 'with_party(program, party)',
                       'without_party(program, party)', 'with_arrow(program, party, arrow)',
                       'without_arrow(program, party, k)', 'with_form(program, name, form)', 'with_calls(program, names)',
                       'mirrored(program)'],
    'programtexts': ['doing_text(doing)', 'program_text(program)'],
    'programreadings': ['doing_read(text, *, line=0, field=0)', 'program_read(text)'],
    'runs': ['is_run(program, thing)', 'lets_run(program, thing)', 'next_steps(program, made)',
             'places_after(program, made)', 'contents_of(program, made)', 'stand_after(program, made)'],
    'letters': ['letters_of(program, made)', 'is_ahead(program, made, m, n)', 'is_behind(program, made, m, n)',
                'shortest_ring(program, made)', 'is_direct(program, made)'],
    'pictures': ['picture(program, made)'],
    'stands': ['first_stand(program)', 'moves_from(program, stand)', 'watched_from(program, watched)',
               'is_crossing(program, watched)'],
    'judging': ['is_as_calls(program)', 'fewest_to_ring(program)', 'ring_run(program)'],
    'callpapers': ['call_paper(program)'],
    'callchecker': ['lets_calls(program, thing)'],
    'leastcalls': ['ring_sets(program)', 'least_calls(program)', 'greatest_others(program)', 'suffices(program, names)',
                   'needs_call(program, name)'],
    'leastpapers': ['least_paper(program)'],
    'leastchecker': ['lets_least(program, thing)'],
    'standing': ['stands_of(program)', 'stuck_stands(program)', 'left_stands(program)', 'way_to(program, stand)',
                 'never_done(program)', 'never_taken(program)', 'newly_stuck(program, names)'],
    'growth': ['most_lying(program, *, only=None)', 'growth_paper(program, *, only=None)'],
    'growthchecker': ['lets_growth(program, thing, *, only=None)'],
    'viewtables': ['view_rows(program, party)'],
    'viewchecker': ['lets_rows(thing)'],
    'viewparting': ['are_alike_to(program, other, party)', 'parting_doings(program, other, party)', 'run_for(program, party, doings)'],
    'eventtexts': ['event_line(event)', 'log_lines(log)'],
    'eventreadings': ['read_event(text)', 'read_log(lines)'],
    'replaying': ['is_log(thing)', 'replayed(log)'],
    'orders': ['direct_run(program, made)', 'are_alike(program, made, other)', 'events_of(program, made, party)',
               'doings_of(program, made, party)', 'moves_of(program, made)'],
}
CLASSES = {
    'errors': {
        'CallsError': [], 'PaperError': [], 'ProgramError': [], 'WatchError': [], 'TextError': [],
        'InvalidPaper': ['__init__(self, word, at)'], 'NotUsable': ['__init__(self, word, at)'],
        'NotCalls': ['__init__(self, run, ring)'], 'InvalidEvent': ['__init__(self, event, reason)'],
        'NothingToUndo': ['__init__(self, steps)'], 'InvalidText': ['__init__(self, line, field)'],
        'InvalidRow': ['__init__(self, row)'],
    },
    'programclasses': {
        'Program': ['__init__(self, parties=(), channels=())', '__call__(self, party, place)', 'added(self, party)',
                    'dropped(self, party)', 'extended(self, party, arrow)', 'shortened(self, party, k)',
                    'formed(self, name, form)', 'called(self, names)', 'mirror(self)', 'all_arrows(self)',
                    'parsed(cls, text)', 'plain(names)'],
        'Called': ['__init__(self, program, *names)'],
        'Mirrored': ['__init__(self, program)'],
    },
    'runclasses': {'Run': ['__init__(self, program, events=())', 'read(cls, program, text)']},
    'leaders': {'Leader': ['__init__(self, program)', 'go(self, step)', 'undo(self, steps=1)', 'trial(self)', 'tried(self, steps)']},
    'viewclasses': {'View': ['__init__(self, rows)', 'made(cls, program, party)', 'nothing()', '__call__(self, doings)', 'without(self, name)']},
    'watches': {
        'Watch': ["__init__(self, program, *, guard='off')", 'did(self, *events)', 'set_form(self, channel, form)', 'set_guard(self, word)',
                  'add_arrow(self, party, arrow)', 'mark(self, name)', 'go(self, event)', '__call__(self, event)', 'tried(self, *events)',
                  'undo(self)', 'do_all(self, *events, keep=False)', 'tally(self)', 'barred(self, event)', 'table(self)',
                  'letters_since(self, name)', 'is_sure_since(self, name)', 'log(self)'],
    },
    'desk': {'Desk': ['__init__(self)', 'say(self, row)', 'tally(self)']},
}
OPERATORS = {
    'Program': ['__getitem__', '__contains__', '__len__', '__iter__', '__eq__', '__str__', '__add__', '__sub__'],
    'Run': ['__len__', '__getitem__', '__iter__', '__contains__', '__str__', '__add__', '__eq__', '__le__', '__ge__', '__and__'],
    'Leader': ['__iadd__', '__len__'],
    'View': ['__eq__', '__le__', '__ge__', '__and__', '__or__', '__contains__', '__call__', '__len__'],
    'Watch': ['__call__', '__getitem__', '__contains__', '__iter__', '__len__', '__eq__', '__str__'],
}
PROPERTIES = {
    'Program': ['parties', 'channels', 'form'], 'Called': ['source'], 'Mirrored': ['source'],
    'Run': ['letters_now', 'stand_now'], 'Leader': ['events_now', 'next_step'], 'View': ['rows'],
    'Watch': ['program_now', 'places_now', 'lying_now', 'steps_now', 'crossings_now', 'ring_now', 'guard_now'],
}
GENERATORS = (('orders', 'moves_of'), ('programclasses', 'Program.all_arrows'))


def module(name):
    """A module of the package."""
    return importlib.import_module(f'ascalls.{name}')


class InterfaceTests(unittest.TestCase):
    def test_functions(self):
        for name, functions in FUNCTIONS.items():
            for written in functions:
                function = vars(module(name))[written.partition('(')[0]]
                self.assertTrue(inspect.isfunction(function))
                self.assertEqual(function.__module__, f'ascalls.{name}')
                self.assertEqual(function.__name__ + str(inspect.signature(function)), written)

    def test_classes(self):
        for name, classes in CLASSES.items():
            for title, methods in classes.items():
                made = vars(module(name))[title]
                self.assertTrue(inspect.isclass(made))
                self.assertEqual(made.__module__, f'ascalls.{name}')
                for written in methods:
                    method = vars(made)[written.partition('(')[0]]
                    function = getattr(method, '__func__', method)
                    self.assertEqual(function.__name__ + str(inspect.signature(function)), written)
                for operator in OPERATORS.get(title, []):
                    self.assertIn(operator, vars(made))
                for prop in PROPERTIES.get(title, []):
                    self.assertIsInstance(vars(made)[prop], property)

    def test_class_and_static_methods(self):
        program = vars(module('programclasses').Program)
        self.assertIsInstance(program['parsed'], classmethod)
        self.assertIsInstance(program['plain'], staticmethod)
        self.assertIsInstance(vars(module('runclasses').Run)['read'], classmethod)
        self.assertIsInstance(vars(module('viewclasses').View)['made'], classmethod)
        self.assertIsInstance(vars(module('viewclasses').View)['nothing'], staticmethod)

    def test_setters(self):
        self.assertIsNot(vars(module('leaders').Leader)['next_step'].fset, None)
        self.assertIs(vars(module('leaders').Leader)['events_now'].fset, None)
        for title, path in (('Watch', 'watches'), ('View', 'viewclasses'), ('Run', 'runclasses'), ('Program', 'programclasses')):
            for prop in PROPERTIES[title]:
                self.assertIs(vars(vars(module(path))[title])[prop].fset is None, prop != 'guard_now')

    def test_class_values(self):
        self.assertEqual(vars(module('watches').Watch)['MOST'], 40)

    def test_modules(self):
        """All modules that the document lists are there."""
        names = ('errors kinds programchecker programparts programchanges programtexts programreadings programclasses runs letters orders '
                 'pictures runclasses leaders stands judging callpapers callchecker leastcalls leastpapers leastchecker standing growth '
                 'growthchecker viewtables viewchecker viewclasses viewparting watches eventtexts eventreadings replaying desk')
        self.assertEqual(sorted({*FUNCTIONS, *CLASSES}), sorted(names.split()))
        for name in names.split():
            self.assertIsNot(module(name), None)

    def test_generators(self):
        for name, path in GENERATORS:
            thing = module(name)
            for part in path.split('.'):
                thing = getattr(thing, part)
            self.assertTrue(inspect.isgeneratorfunction(thing))


if __name__ == '__main__':
    unittest.main()
