"""The examples of sections 7 to 9 of the document, each as the session that stands there."""

import unittest

from samples import ExampleCase

DESKS = """
>>> from treewalks.desks import Desk
>>> str(Desk((None, 'a', None)))
'1 nodes, 0 edits'

>>> from treewalks.desks import Desk
>>> [Desk.read('a(b,-)').tree(), Desk.is_edit(('cut', 5)), Desk.is_edit(('put', ''))]
[((None, 'b', None), 'a', None), True, False]

>>> from treewalks.desks import Desk
>>> desk = Desk(((None, 'b', None), 'a', None))
>>> [desk.put('r', 'c'), desk.label('', 'x'), desk.turn(''), desk.cut('l'), desk.tree()]
[1, 2, 3, 4, (None, 'x', (None, 'b', None))]

>>> from treewalks.desks import Desk
>>> desk = Desk(((None, 'b', None), 'a', None))
>>> [desk.cut('l'), desk.undo(), desk.tree()]
[1, 0, ((None, 'b', None), 'a', None)]

>>> from treewalks.desks import Desk
>>> desk = Desk(((None, 'b', None), 'a', None))
>>> desk.run([('turn', ''), ('cut', 'l')])
raises Rejected(1)

>>> from treewalks.desks import Desk
>>> desk = Desk(((None, 'b', None), 'a', None))
>>> [desk.version, desk.size, desk.first, desk.between, desk.put('r', 'c'), desk.last]
[0, 2, 'ab', 'ba', 1, 'bca']

>>> from treewalks.desks import Desk
>>> desk = Desk(((None, 'b', None), 'a', None))
>>> [desk.cut('l'), desk.tree(version=0), desk.edits(), len(list(desk.history()))]
[1, ((None, 'b', None), 'a', None), (('cut', 'l'),), 2]

>>> from treewalks.desks import Desk
>>> A = (None, 'a', None)
>>> [len(Desk(A)), Desk(A) == Desk(A), Desk(A) == A]
[0, True, False]

>>> from treewalks.desks import SearchDesk
>>> desk = SearchDesk((None, 'b', None))
>>> desk.put('l', 'c')
raises NotSearch('cb')

>>> from treewalks.desks import LoggedDesk
>>> desk = LoggedDesk((None, 'a', None))
>>> [desk.run([('put', 'l', 'b')]), desk.undo(), desk.log]
[1, 0, (('run', 1), ('undo', 0))]

>>> from treewalks.desks import LoggedDesk, LoggedSearchDesk, SearchDesk
>>> desk = LoggedSearchDesk.read('b')
>>> [isinstance(desk, SearchDesk), isinstance(desk, LoggedDesk), desk.log]
[True, True, ()]
"""

TEXTS = """
>>> from treewalks.texts import parse_tree, tree_text
>>> T = ((None, 'b', None), 'a', ((None, 'd', None), 'c', None))
>>> [tree_text(T), parse_tree('a(-,b)')]
['a(b,c(d,-))', (None, 'a', (None, 'b', None))]

>>> from treewalks.texts import parse_tree
>>> parse_tree('a(-,-)')
raises BadText(4)

>>> from treewalks.texts import parse_tree
>>> parse_tree('a(b')
raises BadText(3)

>>> from treewalks.desks import Desk
>>> from treewalks.shells import Shell
>>> shell = Shell(Desk(((None, 'a', None), 'b', (None, 'c', None))))
>>> [shell.execute('tree'), shell.execute('orders'), shell.execute('cut l'), shell.execute('trees'), \
shell.execute('cut .'), shell.execute('cut')]
['b(a,c)', '2', 'ok 1', '2', 'error LastNode', 'unknown command']
"""

RENAMINGS = """
>>> from treewalks.renamings import Renaming
>>> str(Renaming(b='c', a='x', d='d'))
'a>x b>c'

>>> from treewalks.renamings import Renaming
>>> Renaming(a='x', B='y')
raises NoLetter('B')

>>> from treewalks.renamings import Renaming
>>> [Renaming.read('b>c a>x') == Renaming(a='x', b='c'), str(Renaming.read(''))]
[True, '']

>>> from treewalks.renamings import Renaming
>>> Renaming.read('a>x a>y')
raises BadText(1)

>>> from treewalks.renamings import Renaming
>>> R = Renaming(a='b', b='c', c='a')
>>> [R((None, 'a', None)), R((None, 'a', (None, 'd', None)), 10 ** 12), R(None)]
[(None, 'b', None), (None, 'b', (None, 'd', None)), None]

>>> from treewalks.renamings import Renaming
>>> R = Renaming(a='x', b='b')
>>> [R['a'], R['b'], 'a' in R, 'b' in R, 5 in R]
['x', 'b', True, False, False]

>>> from treewalks.renamings import Renaming
>>> R = Renaming(a='b', b='a')
>>> [str(R + Renaming(b='c')), R + R == Renaming(), str(-Renaming(a='b', b='c', c='a'))]
['a>c b>a', True, 'a>c b>a c>b']

>>> from treewalks.renamings import Renaming
>>> -Renaming(a='b')
raises NotOneToOne('b')

>>> from treewalks.renamings import Renaming
>>> [Renaming(a='x').within(Renaming(a='x', b='y')), len(Renaming(a='x', b='b')), bool(Renaming(b='b')), \
Renaming() == '']
[True, 1, False, False]
"""


class Examples(ExampleCase):
    def test_desks(self):
        self.check_sessions(DESKS, 11)

    def test_texts(self):
        self.check_sessions(TEXTS, 4)

    def test_renamings(self):
        self.check_sessions(RENAMINGS, 9)


if __name__ == "__main__":
    unittest.main()
