"""The examples of the document, and those of README.md, as they stand there."""

import doctest
import pathlib
import re
import unittest

from ascalls.errors import CallsError

TOP = pathlib.Path(__file__).resolve().parent.parent
DOCUMENT = TOP.parent / 'shared' / 'DOC.md'


def examples(text):
    """The pairs of the source of an example and what the document says of it, - for nothing."""
    found = []
    for line in text.split('\n'):
        if line.startswith('    >>> '):
            found.append([line[8:], ''])
        elif line.startswith('    ') and found and found[-1][1] == '':
            found[-1][1] = line[4:]
        else:
            # Lines that are set in elsewhere show the forms of texts.
            found.append(['', '-'])
    return [(source, told) for source, told in found if source]


def shown(error):
    """An error as the document writes it; of NotCalls it writes the run alone."""
    fields = {name: value for name, value in vars(error).items() if name != 'ring'}
    return f'raises {type(error).__name__}({", ".join(f"{name}={value!r}" for name, value in fields.items())})'


class ExampleTests(unittest.TestCase):
    @unittest.skipUnless(DOCUMENT.exists(), 'the document is not beside this folder')
    def test_document(self):
        names = {}
        told = 0
        for source, wanted in examples(DOCUMENT.read_text(encoding='utf-8')):
            if re.match(r'(from|[A-Za-z_, ]+ = )', source):
                exec(source, names)
                self.assertEqual(wanted, '', source)
                continue
            told += wanted != ''
            try:
                result = repr(eval(source, names))
            except CallsError as error:
                result = shown(error)
            self.assertEqual(result, wanted, source)
        self.assertGreater(told, 55)

    def test_readme(self):
        failed, tried = doctest.testfile(str(TOP / 'README.md'), module_relative=False)
        self.assertEqual(failed, 0)
        self.assertGreater(tried, 20)


if __name__ == '__main__':
    unittest.main()
