"""The examples of the document: each one ends in a line that tells the result or the error."""

import re
import unittest

EXAMPLES = r"""
>>> from lookedrows.values import value_text
>>> value_text(('plus', ('field', 'r', 'end'), -2))
'r.end - 2'

>>> from lookedrows.conditions import read_condition
>>> read_condition('(own.key < a and not found r)')
('and', ('below', ('own', 'key'), ('name', 'a')), ('not', ('found', 'r')))

>>> from lookedrows.conditions import condition_text
>>> condition_text(('and', ('true',), ('found', 'R')))
raises InvalidCondition(path=(2,))

>>> from lookedrows.systems import System
>>> system = System([('a', 'b', -1), ('b', 'a', 0)])
>>> [system.is_open, system.told()]
[False, 'a <= b - 1 and b <= a']

>>> from lookedrows.systems import System
>>> system = System([('a', '', 5), ('', 'a', -2)])
>>> [system.least('a', ''), system.least('', 'a'), system.least('a', 'b')]
[5, -2, None]

>>> from lookedrows.tables import Table
>>> Table(['end'], [(5, 7), (1, 2)]).rows()
[(1, 2), (5, 7)]

>>> from lookedrows.procedures import Procedure
>>> from lookedrows.running import run
>>> from lookedrows.tables import Table
>>> find = ('find', 'r', 'first', (None, ('name', 'b')), ('below', ('name', 'a'), ('own', 'end')))
>>> put = ('if', ('found', 'r'), (('fail', 'busy'),), (('insert', 's', (('name', 'a'), ('name', 'b'))),))
>>> book = Procedure(['end'], ['a', 'b'], [find, put])
>>> table = Table(['end'], [(1, 3), (8, 9)])
>>> [run(book, table, 3, 8)[0], run(book, table, 3, 8)[1].rows(), run(book, table, 2, 8)[0]]
[('returned', []), [(1, 3), (3, 8), (8, 9)], ('failed', 'busy')]

>>> from lookedrows.procedures import Procedure
>>> Procedure([], ['a'], [('delete', 'r'), ('if', ('true',), [], [('fail', 'A')])])
raises InvalidStatement(path=(1, 3, 0))

>>> from lookedrows.rules import Rules
>>> from lookedrows.tables import Table
>>> below, atmost = ('below', ('own', 'key'), ('own', 'end')), ('atmost', ('own', 'end'), ('next', 'key'))
>>> rules = Rules(['end'], rows=[below], nexts=[atmost])
>>> [rules.keeps(Table(['end'], [(1, 3), (3, 4)])), rules.broken(Table(['end'], [(1, 3), (2, 4)]))]
[True, (1, 0)]

>>> from lookedrows.procedures import Procedure
>>> from lookedrows.questions import Keeps, Never
>>> from lookedrows.rules import Rules
>>> below, atmost = ('below', ('own', 'key'), ('own', 'end')), ('atmost', ('own', 'end'), ('next', 'key'))
>>> rules = Rules(['end'], rows=[below], nexts=[atmost])
>>> find = ('find', 'r', 'first', (None, ('name', 'b')), ('below', ('name', 'a'), ('own', 'end')))
>>> put = ('if', ('found', 'r'), (('fail', 'busy'),), (('insert', 's', (('name', 'a'), ('name', 'b'))),))
>>> test = ('if', ('below', ('name', 'a'), ('name', 'b')), (), (('fail', 'empty'),))
>>> some = [Procedure(['end'], ['a', 'b'], [find, put]), Procedure(['end'], ['a', 'b'], [test, find, put])]
>>> [Keeps(some[0]).ask(rules).holds, Keeps(some[1]).ask(rules).holds, Never(some[1], word='taken').ask(rules).holds]
[False, True, True]

>>> from lookedrows.meetings import Woven
>>> from lookedrows.procedures import Procedure
>>> statements = [('clear', (None, ('name', 'a')), ('true',)), ('insert', 'r', (('name', 'a'),))]
>>> Woven(Procedure([], [], []), Procedure([], ['a'], statements))
raises FailsLate(index=1)

>>> from lookedrows.needs import spare
>>> from lookedrows.procedures import Procedure
>>> from lookedrows.rules import Rules
>>> rows = [('clear', (('name', 'a'), None), ('true',)), ('clear', (('plus', ('name', 'a'), 1), None), ('true',))]
>>> rows = [*rows, ('fail', 'no')]
>>> [spare(Rules([]), Procedure([], ['a'], rows[:2])), spare(Rules([]), Procedure([], ['a'], rows))]
[[1], [0, 1]]

>>> from lookedrows.procedures import Procedure
>>> from lookedrows.texts import procedure_text
>>> procedure_text(Procedure(['end'], ['a'], [('if', ('found', 'r'), (), (('move', ('name', 'a'), -1),))]))
'procedure end\narguments a\nif found r\nelse\nmove a -1\nend\n'

>>> from lookedrows.texts import read_table
>>> read_table('table end\n1 2\n1 3\n')
raises InvalidLine(index=2)

>>> from lookedrows.desk import Desk
>>> from lookedrows.procedures import Procedure
>>> from lookedrows.rules import Rules
>>> desk = Desk()
>>> put = Procedure([], ['a'], [('insert', 'r', (('name', 'a'),))])
>>> desk.shelf().apply(('enter', 'book', Rules([])), ('enter', 'put', put))
>>> [desk.say('names'), desk.say('ask never book put'), desk.say('drop me')]
['book put', 'no 1', 'error UnknownName']
"""


def outcome(lines):
    """What the last one of some lines gives, behind those ahead of it."""
    names = {}
    for line in lines[:-1]:
        exec(line, names)
    try:
        return repr(eval(lines[-1], names))
    except (ValueError, LookupError) as error:
        told = ", ".join(f"{name}={value!r}" for name, value in vars(error).items() if name != "code")
        return f"raises {error.code}({told})"


class TestExamples(unittest.TestCase):

    def test_examples(self):
        examples = EXAMPLES.strip().split("\n\n")
        self.assertEqual(len(examples), 15)
        for example in examples:
            lines = re.findall("^>>> (.*)$", example, re.MULTILINE)
            self.assertEqual(outcome(lines), example.split("\n")[-1])


if __name__ == "__main__":
    unittest.main()
