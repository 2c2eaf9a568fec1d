"""[17], [18]: doings and programs as text, written and read."""

import unittest

from ascalls.programreadings import doing_read, program_read
from ascalls.programtexts import doing_text, program_text
from tests.samples import ASK, BARE, EMPTY, MIXED, PROGRAMS, outcome, raised, returned

ASK_LINES = [
    'channel back bob ann queue', 'channel out ann bob queue',
    'party ann 2', 'arrow ann 0 put out hi 1', 'arrow ann 1 take back ok 2',
    'party bob 2', 'arrow bob 0 take out hi 1', 'arrow bob 1 put back ok 2',
]
LONG = '9' * 60


class TextTests(unittest.TestCase):
    def test_doing_text(self):
        self.assertEqual(outcome(doing_text, ('put', 'out', 'hi')), returned('put out hi'))
        self.assertEqual(outcome(doing_text, ('take', 'out', 'hi')), returned('take out hi'))
        self.assertEqual(outcome(doing_text, ('do', 'nap')), returned('do nap'))
        self.assertEqual(doing_text(doing=('do', 'do')), 'do do')

    def test_program_text(self):
        self.assertEqual(outcome(program_text, ASK), returned('\n'.join(ASK_LINES)))
        self.assertEqual(outcome(program_text, EMPTY), returned(''))
        self.assertEqual(program_text(program=BARE), 'channel q a abcdefgh bag\nparty a -\nparty abcdefgh 0,7')

    def test_program_text_of_what_the_readers_return(self):
        text = 'channel x a a bag\nchannel x b c call\nparty b -\narrow b 0 put z z 0\narrow b 0 put z z 0\nparty a 1\nparty b 0'
        self.assertEqual(program_text(program_read(text)), text)

    def test_long_numbers(self):
        program = ((('a', (0, int(LONG)), ((int(LONG), ('do', 'b'), 0),)),), ())
        text = f'party a 0,{LONG}\narrow a {LONG} do b 0'
        self.assertEqual(program_text(program), text)
        self.assertEqual(program_read(text), program)

    def test_read_is_equal_to_written(self):
        for program in PROGRAMS:
            self.assertEqual(outcome(program_read, program_text(program)), returned(program))
            for party in program[0]:
                for arrow in party[2]:
                    self.assertEqual(outcome(doing_read, doing_text(arrow[1])), returned(arrow[1]))


class DoingReadTests(unittest.TestCase):
    def check(self, text, field):
        for line, more in ((0, 0), (7, 3), (10 ** 59, 10 ** 59)):
            found = outcome(doing_read, text, line=line, field=more)
            self.assertEqual(found, raised('InvalidText', line=line, field=more + field), text)
        self.assertEqual(outcome(doing_read, text), raised('InvalidText', line=0, field=field), text)

    def test_read(self):
        for text in ('put x hi', 'take x hi', 'do nap', 'put put put', 'do do', 'take abcdefgh abcdefgh'):
            self.assertEqual(outcome(doing_read, text), returned(tuple(text.split(' '))))
            self.assertEqual(outcome(doing_read, text=text, line=3, field=9), returned(tuple(text.split(' '))))

    def test_line_and_field_by_name_only(self):
        with self.assertRaises(TypeError):
            doing_read('do nap', 0)

    def test_first_word(self):
        for text in ('', ' ', 'Put x hi', 'puts x hi', 'get', 'nap', ' do nap', 'do\nnap', '\ndo nap', 'do\n nap', '0', 'x put hi',
                     'put\nx hi', 'tak', ' put x hi', '-'):
            self.check(text, 0)

    def test_names(self):
        for word in ('', 'Hi', 'abcdefghi', 'a1', '-', '0', 'a\n', '\na', 'a\nb', 'a,b'):
            self.check(f'put {word} hi', 1)
            self.check(f'take {word}', 1)
            self.check(f'do {word}', 1)
            self.check(f'put x {word}', 2)
            self.check(f'take x {word} more', 2)
            self.check(f'do {word} more', 1)

    def test_missing(self):
        for text, field in (('put', 1), ('take', 1), ('do', 1), ('put x', 2), ('take x', 2)):
            self.check(text, field)

    def test_too_many(self):
        for text, field in (('do nap nap', 2), ('do nap ', 2), ('put x hi hi', 3), ('take x hi ', 3), ('put x hi  ', 3),
                            ('do nap  nap', 2), ('put x  hi', 2), ('do  nap', 1), ('put  x hi', 1), ('do nap \n', 2)):
            self.check(text, field)


class ProgramReadTests(unittest.TestCase):
    def check(self, text, line, field):
        self.assertEqual(outcome(program_read, text), raised('InvalidText', line=line, field=field), text)

    def check_line(self, line, field, before=()):
        """This line is wrong at this field, wherever it stands."""
        self.check('\n'.join([*before, line]), len(before), field)
        self.check('\n'.join([*before, line, 'bad']), len(before), field)
        more = ['channel x a b bag', *before]
        self.check('\n'.join([*more, line, '']), len(more), field)

    def test_examples(self):
        read = program_read('party ann -\narrow ann 0 do nap 0')
        self.assertEqual(read, ((('ann', (), ((0, ('do', 'nap'), 0),)),), ()))
        self.check('party bob 0,3\narrow bob 0 put x hi', 1, 6)

    def test_nothing(self):
        self.assertEqual(outcome(program_read, ''), returned(EMPTY))
        self.assertEqual(program_read(text=''), EMPTY)

    def test_what_is_no_program_is_read(self):
        text = 'channel z a a bag\nchannel b z y call\nchannel b z y call\nparty b 0\nparty a -\narrow a 0 take q q 7\n' \
               'arrow a 0 take q q 7\nparty b 3,5'
        self.assertEqual(outcome(program_read, text), returned((
            (('b', (0,), ()), ('a', (), ((0, ('take', 'q', 'q'), 7),) * 2), ('b', (3, 5), ())),
            (('z', 'a', 'a', 'bag'), ('b', 'z', 'y', 'call'), ('b', 'z', 'y', 'call')))))

    def test_first_word(self):
        for line in (' channel x a b bag', 'Channel x a b bag', 'chan', 'doing', 'put x hi', '0', 'channels', '-', ' ', '  '):
            self.check_line(line, 0)
            self.check_line(line, 0, ['party a -', 'arrow a 0 do b 0'])

    def test_empty_lines(self):
        self.check('\n', 0, 0)
        self.check('\n\n', 0, 0)
        self.check(' ', 0, 0)
        self.check('party a -\n', 1, 0)
        self.check('party a -\n\nparty b -', 1, 0)
        self.check('\nparty a -', 0, 0)

    def test_channel_lines(self):
        for k in range(1, 4):
            for word in ('', 'X', 'abcdefghi', 'a1', '-', '0'):
                words = ['channel', 'x', 'a', 'b', 'bag']
                words[k] = word
                self.check_line(' '.join(words), k)
                self.check_line(' '.join(words[:k + 1]), k)
        for form in ('', 'heap', 'Bag', 'bags', 'x', '-'):
            self.check_line(f'channel x a b {form}', 4)
        for size in range(1, 5):
            self.check_line(' '.join(['channel', 'x', 'a', 'b', 'bag'][:size]), size)
        self.check_line('channel x a b bag bag', 5)
        self.check_line('channel x a b bag ', 5)
        self.check_line('channel x a b bag  ', 5)

    def test_channel_after_party(self):
        self.check('party a -\nchannel x a b bag', 1, 0)
        self.check('party a -\narrow a 0 do b 0\nchannel x a b bag', 2, 0)
        self.check('party a -\nchannel', 1, 0)

    def test_party_lines(self):
        for word in ('', 'X', 'abcdefghi', 'a1', '-', '0'):
            self.check_line(f'party {word} -', 1)
        for ends in ('', '00', '01', '0,', ',', ',0', '0,,1', '1,0', '0,0', '0,1,1', '-0', '-,0', '0,-', 'a', '0;1', '--',
                     '0,01', '+1', '-1', '1.0', '9' * 61, '0,' + '9' * 61, '0x1', '1_0'):
            self.check_line(f'party a {ends}', 2)
        self.check_line('party', 1)
        self.check_line('party a', 2)
        self.check_line('party a - -', 3)
        self.check_line('party a 0 ', 3)
        self.check_line('party a 0, 1', 2)
        for ends, places in (('-', ()), ('0', (0,)), ('7', (7,)), ('0,1,20', (0, 1, 20)), (LONG, (int(LONG),)), ('9,10', (9, 10))):
            self.assertEqual(outcome(program_read, f'party a {ends}'), returned(((('a', places, ()),), ())))

    def test_arrow_before_party(self):
        self.check('arrow a 0 do b 0', 0, 0)
        self.check('channel x a b bag\narrow a 0 do b 0\nparty a -', 1, 0)
        self.check('arrow', 0, 0)

    def test_arrow_of_another_party(self):
        self.check('party a -\nparty b -\narrow a 0 do b 0', 2, 1)
        self.check('party a -\narrow b 0 do b 0\nparty b -', 1, 1)
        self.check('party a -\narrow aa 0 do b 0', 1, 1)
        self.check('party a -\narrow ', 1, 1)
        self.check('party a -\narrow  a 0 do b 0', 1, 1)
        program = program_read('party a -\nparty b -\narrow b 0 do b 0\nparty a -\narrow a 1 do c 2')
        self.assertEqual([party[0] for party in program[0]], ['a', 'b', 'a'])
        self.assertEqual([len(party[2]) for party in program[0]], [0, 1, 1])

    def test_arrow_lines(self):
        party = ['party a -']
        for number in ('', '-', '00', '01', '-1', '+1', 'a', '9' * 61, '1,2', '1.0'):
            self.check_line(f'arrow a {number} do b 0', 2, party)
            self.check_line(f'arrow a 0 do b {number}', 5, party)
            self.check_line(f'arrow a 0 put x b {number}', 6, party)
            self.check_line(f'arrow a 0 take x b {number}', 6, party)
        for word in ('', 'X', 'abcdefghi', '0'):
            self.check_line(f'arrow a 0 do {word} 0', 4, party)
            self.check_line(f'arrow a 0 put {word} b 0', 4, party)
            self.check_line(f'arrow a 0 take x {word} 0', 5, party)
            self.check_line(f'arrow a 0 {word} x b 0', 3, party)
        self.check_line('arrow a 0 nap x b 0', 3, party)
        for line in ('arrow a 0 do b 0', 'arrow a 0 put x b 0', 'arrow a 0 take x b 0'):
            words = line.split(' ')
            for size in range(1, len(words)):
                self.check_line(' '.join(words[:size]), size, party)
            self.check_line(line + ' 0', len(words), party)
            self.check_line(line + ' ', len(words), party)
        self.check_line('arrow a 0 put x 0', 5, party)
        self.check_line('arrow a 0 do b c 0', 5, party)
        self.check_line('arrow a 0 do 0', 4, party)

    def test_first_line_and_first_word(self):
        self.check('party a 0,0 0\nbad', 0, 2)
        self.check('party A -\nparty', 0, 1)
        self.check('channel x\nparty A -', 0, 2)
        self.check('party a -\narrow A x do B y', 1, 1)
        self.check('party a -\narrow a x do B y', 1, 2)
        self.check('channel X Y Z heap more', 0, 1)

    def test_sixty_digits(self):
        text = f'party a {LONG}\narrow a {LONG} do b {LONG}'
        number = int(LONG)
        self.assertEqual(program_read(text), ((('a', (number,), ((number, ('do', 'b'), number),)),), ()))

    def test_any_change_of_a_text_is_read_or_told(self):
        text = program_text(MIXED)
        for k in range(len(text)):
            for sign in ('', ' ', '\n', ',', '0', 'a', '-', '  '):
                changed = text[:k] + sign + text[k + 1:]
                kind, result = outcome(program_read, changed)
                if kind == 'returns':
                    self.assertEqual(program_text(program_read(changed)), changed)
                else:
                    self.assertEqual(result[0], 'InvalidText')
                    line, field = result[1]['line'], result[1]['field']
                    lines = changed.split('\n')
                    program_read('\n'.join(lines[:line]))
                    self.assertLessEqual(field, len(lines[line].split(' ')))


if __name__ == '__main__':
    unittest.main()
