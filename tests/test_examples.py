"""The examples of the document come out as they are printed there.

Chapter 1:

>>> from finecloud.clouds import Cloud
>>> from finecloud.progress import code_of, read_code
>>> from finecloud.space import Space
>>> space = Space(2, 2)
>>> sheep = Cloud(space, [(0, 0), (1, 0), (3, 3)])
>>> code_of(sheep)
((1, 0), (1, 1, 0, 1), (0, 1), (1, 1, 0))
>>> read_code(space, 3, (1, 0, 1, 1, 0, 1, 0))
(2, ((0, 2), (3, 1)), 6)

Chapter 8:

>>> from finecloud.asking import count_in, nearest
>>> from finecloud.clouds import Cloud
>>> from finecloud.space import Box, Space
>>> cloud = Cloud(Space(2, 3), [(0, 0), (3, 4), (6, 1), (5, 5)])
>>> count_in(cloud, Box(cloud.space, (2, 0), (6, 4))), nearest(cloud, (4, 4), 2)[0]
(2, ((1, (3, 4)), (2, (5, 5))))

Chapter 9:

>>> from finecloud.certain import is_possible, is_sure, nearest_bounds
>>> from finecloud.pieces import Knowledge
>>> from finecloud.space import Space
>>> seen = Knowledge(Space(1, 3), {(0, 0): 3, (1, 0): 1, (3, 2): 0})
>>> nearest_bounds(seen, (2,), 1), nearest_bounds(seen, (2,), 2), nearest_bounds(seen, (2,), 4)
((1, 4), (4, 16), (None, None))
>>> is_possible(seen, (2,), (1,)), is_possible(seen, (2,), (4,)), is_sure(seen, (2,), (3,))
(True, True, False)

Chapter 10:

>>> from finecloud.clouds import Cloud
>>> from finecloud.pieces import Knowledge
>>> from finecloud.space import Box, Space
>>> from finecloud.telling import fewest_facts
>>> space = Space(1, 3)
>>> cloud, whole = Cloud(space, [(5,)]), Box(space, (0,), (7,))
>>> fewest_facts(cloud, Knowledge(space, {}), whole, 3), fewest_facts(cloud, Knowledge(space, {(0, 0): 1}), whole, 3)
(((0, 0), (3, 5)), ((3, 5),))

Chapter 11:

>>> from finecloud.stores import Store, versions_behind
>>> store = Store("")
>>> store.put(0, ((0, 5), (3, 1))), store.put(1, ((3, 1),))
(1, 2)
>>> store.loose
'1 0 - 0,5;3,1 1\\n2 1 0,5 - 2\\n'
>>> versions_behind(store, 15), versions_behind(store, 16), Store(store.fallen(20)).history.points(1)
(1, 2, ((0, 5), (3, 1)))

Chapter 12:

>>> from finecloud.shapes import are_alike, form_of, places_in
>>> ell, jay = ((0, 0), (1, 0), (2, 0), (2, 1)), ((5, 5), (5, 6), (5, 7), (4, 7))
>>> are_alike(ell, jay, True), are_alike(ell, jay, False), form_of(((4, 2), (4, 3)), False)
(True, True, ((0, 0), (0, 1)))
>>> len(places_in(((0, 0), (1, 0)), ((0, 0), (1, 0), (1, 1)), False))
4
"""

import doctest
import sys
import unittest


class Examples(unittest.TestCase):
    def test_examples(self):
        failed, tried = doctest.testmod(sys.modules[__name__])
        self.assertEqual((failed, tried), (0, 34))


if __name__ == "__main__":
    unittest.main()
