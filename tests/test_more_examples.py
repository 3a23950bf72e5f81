"""The examples of sections 3 to 6 of the document, each as the session that stands there."""

import unittest

from samples import ExampleCase

FITS = """
>>> from treewalks.fits import fits
>>> T = ((None, 'b', None), 'a', ((None, 'd', None), 'c', None))
>>> [fits(T, first='abcd'), fits(T, first='a??d', last='bdca'), fits(T, between='abcd')]
[True, True, False]

>>> from treewalks.fits import count_trees
>>> [count_trees(first='abcd', between='badc'), count_trees(first='abc', last='cba'), count_trees(first='ab'), \
count_trees(between='?')]
[1, 4, 2, 26]

>>> from treewalks.fits import count_trees
>>> count_trees(first='ab', last='a')
raises NotAlike('last')

>>> from treewalks.fits import tree_at
>>> [tree_at(0, first='ab'), tree_at(1, first='ab')]
[(None, 'a', (None, 'b', None)), ((None, 'b', None), 'a', None)]

>>> from treewalks.fits import tree_index
>>> tree_index(((None, 'b', None), 'a', None), first='ab')
1

>>> from treewalks.fits import each_tree
>>> list(each_tree(first='aa', last='aa'))
[(None, 'a', (None, 'a', None)), ((None, 'a', None), 'a', None)]

>>> from treewalks.fits import sure_rows
>>> [sure_rows(first='abc', last='cba'), sure_rows(first='a?', between='ba')]
[('abc', '???', 'cba'), ('ab', 'ba', 'ba')]

>>> from treewalks.fits import find_refutation, refutation_holds
>>> R = find_refutation(first='ab', last='ab')
>>> [refutation_holds(R, first='ab', last='ab'), find_refutation(first='ab')]
[True, None]

>>> from treewalks.fits import refutation_holds
>>> [refutation_holds(((2, 0, 0, 0),), first='ab', last='ab'), \
refutation_holds(((2, 0, 0, 0),), first='ab', last='ba')]
[True, False]

>>> from treewalks.fits import verdict, verdict_holds
>>> [verdict(first='ab', between='ba'), verdict_holds(('tree', (None, 'a', None)), first='?')]
[('tree', ((None, 'b', None), 'a', None)), True]
"""

PAIRS = """
>>> from treewalks.pairs import is_pair
>>> [is_pair(('ab', 'ba')), is_pair(('ab', 'bb')), is_pair(('ab', 'bc')), is_pair(['a', 'a'])]
[True, False, False, False]

>>> from treewalks.pairs import pair_of
>>> T = ((None, 'b', None), 'a', ((None, 'd', None), 'c', None))
>>> pair_of(T)
('abcd', 'bdca')

>>> from treewalks.pairs import pair_certificate
>>> [pair_certificate(('ab', 'ba')), pair_certificate(('ab', 'ab')), pair_certificate(('abcd', 'dbca')), \
pair_certificate(('abcd', 'bcda'))]
[('tree', ((None, 'b', None), 'a', None)), ('root', 'a'), ('triple', ('b', 'c', 'd')), \
('crowd', ('a', 'b', 'c', 'd'))]

>>> from treewalks.pairs import pair_holds
>>> [pair_holds(('ab', 'ba'), ('tree', (None, 'a', (None, 'b', None)))), pair_holds(('ab', 'ba'), ('root', 'a'))]
[True, False]

>>> from treewalks.pairs import single_letters
>>> [single_letters(('abc', 'cba')), single_letters(('abcd', 'bdca'))]
['ab', 'c']

>>> from treewalks.pairs import single_letters
>>> single_letters(('ab', 'ab'))
raises NoTree()

>>> from treewalks.pairs import pair_tree
>>> [pair_tree(('abc', 'cba'), 'b'), pair_tree(('a', 'a'), '')]
[(None, 'a', ((None, 'c', None), 'b', None)), (None, 'a', None)]

>>> from treewalks.pairs import count_pair_trees, each_pair_tree
>>> [count_pair_trees(('abc', 'cba')), list(each_pair_tree(('ab', 'ba')))]
[4, [(None, 'a', (None, 'b', None)), ((None, 'b', None), 'a', None)]]
"""

SEARCH = """
>>> from treewalks.search import is_search_tree
>>> S = ((None, 'a', None), 'b', (None, 'c', None))
>>> T = ((None, 'b', None), 'a', ((None, 'd', None), 'c', None))
>>> [is_search_tree(S), is_search_tree(T)]
[True, False]

>>> from treewalks.search import search_certificate
>>> [search_certificate('bac'), search_certificate('bca')]
[('tree', ((None, 'a', None), 'b', (None, 'c', None))), ('barrier', (0, 1, 2))]

>>> from treewalks.search import search_holds
>>> [search_holds('bca', ('barrier', (0, 1, 2))), search_holds('bac', ('barrier', (0, 1, 2)))]
[True, False]

>>> from treewalks.search import inserted
>>> S = ((None, 'a', None), 'b', (None, 'c', None))
>>> inserted(S, 'd')
((None, 'a', None), 'b', (None, 'c', (None, 'd', None)))

>>> from treewalks.search import tree_of
>>> [tree_of('bca') == tree_of('bac'), tree_of('ab')]
[True, (None, 'a', (None, 'b', None))]

>>> from treewalks.search import count_orders, tree_of
>>> [count_orders(tree_of('bac')), count_orders(tree_of('abc')), count_orders(tree_of('dbfaceg'))]
[2, 1, 80]

>>> from treewalks.search import order_at, order_index, tree_of
>>> [order_at(tree_of('bac'), 1), order_index(tree_of('bac'), 'bac')]
['bca', 0]

>>> from treewalks.search import order_index, tree_of
>>> order_index(tree_of('bac'), 'abc')
raises NoOrder()

>>> from treewalks.search import each_order, tree_of
>>> [list(each_order(tree_of('bac'))), list(each_order(tree_of('bac'), start=1)), \
list(each_order(tree_of('bac'), start=2))]
[['bac', 'bca'], ['bca'], []]
"""

NESTS = """
>>> from treewalks.nests import is_nest
>>> N = (((None, 'b', None), ()), (((None, 'c', None), 'a', None), (('lr', 0), ('r', 0))))
>>> [is_nest(N), is_nest((((None, 'a', None), (('', 0),)),))]
[True, False]

>>> from treewalks.nests import count_label, nest_size
>>> N = (((None, 'b', None), ()), (((None, 'c', None), 'a', None), (('lr', 0), ('r', 0))))
>>> [nest_size(N), count_label(N, 'b')]
[4, 2]

>>> from treewalks.nests import expand_nest
>>> N = (((None, 'b', None), ()), (((None, 'c', None), 'a', None), (('lr', 0), ('r', 0))))
>>> expand_nest(N)
((None, 'c', (None, 'b', None)), 'a', (None, 'b', None))

>>> from treewalks.nests import label_in
>>> N = (((None, 'b', None), ()), (((None, 'c', None), 'a', None), (('lr', 0), ('r', 0))))
>>> [label_in(N, 'first', 1), label_in(N, 'between', 1), label_in(N, 'last', 3)]
['c', 'b', 'a']

>>> from treewalks.nests import other_place
>>> N = (((None, 'b', None), ()), (((None, 'c', None), 'a', None), (('lr', 0), ('r', 0))))
>>> [other_place(N, 'first', 0, 'last'), other_place(N, 'between', 1, 'last')]
[3, 0]

>>> from treewalks.nests import nth_label
>>> N = (((None, 'b', None), ()), (((None, 'c', None), 'a', None), (('lr', 0), ('r', 0))))
>>> [nth_label(N, 'first', 'b', 1), nth_label(N, 'last', 'b', 0)]
[3, 0]

>>> from treewalks.nests import nest_depth
>>> N = (((None, 'b', None), ()), (((None, 'c', None), 'a', None), (('lr', 0), ('r', 0))))
>>> nest_depth(N)
3
"""


class Examples(ExampleCase):
    def test_trees_that_fit(self):
        self.check_sessions(FITS, 10)

    def test_pairs(self):
        self.check_sessions(PAIRS, 8)

    def test_search_trees(self):
        self.check_sessions(SEARCH, 9)

    def test_nests(self):
        self.check_sessions(NESTS, 7)


if __name__ == "__main__":
    unittest.main()
