"""The section Examples of the document, word for word."""

import doctest
import unittest

EXAMPLES = r"""
>>> from numbertypes.fits import realm_of
>>> from numbertypes.programtexts import read_program
>>> from numbertypes.wishes import Wish
>>> program = read_program('in x\ny = x * x\nout y\n')
>>> [repr(realm_of(program, Wish.read('x\n'))), repr(realm_of(program, Wish.read('x*x + 6\n')))]
['Realm(1, 2, 1, 1)', 'Realm(1, 6, 6, 6)']

>>> from numbertypes.builds import Matrices
>>> from numbertypes.fits import verdict
>>> from numbertypes.programtexts import read_program
>>> from numbertypes.rings import Rests
>>> from numbertypes.wider import Quaternions
>>> from numbertypes.wishes import Wish
>>> program = read_program('in x y\np = x * y\nq = y * x\nr = p - q\nout r\n')
>>> paper = verdict(program, Wish.read('0\n'), Matrices(2, Rests(3)))
>>> [paper.told(), paper.holds(), verdict(program, Wish.read('0\n'), Quaternions(Rests(2))).told()]
['fails', True, 'right']

>>> from numbertypes.forms import Form
>>> from numbertypes.products import divisors, least_products
>>> form = Form.read('2*a*a + 2*a*b + 2*b*a + 3*b*b')
>>> [divisors(form), len(least_products(form)), len(least_products(form, modulus=2))]
[[1, 2], 2, 1]

>>> from numbertypes.nests import cost, depth_ones
>>> from numbertypes.schemes import Scheme
>>> scheme = Scheme((2, 2, 3), [([1, 0], [1, 0], [1, -1, 0]), ([0, 1], [0, 1], [0, -1, 1]), ([1, 1], [1, 1], [0, 1, 0])])
>>> turned = Scheme((1, 1, 1), [([-1], [1], [1])])
>>> [scheme.right_ones([[[1, 0, 0], [0, 1, 0]], [[0, 1, 0], [0, 0, 1]]]), cost(scheme, 2), depth_ones(turned, [[[1]]], 1), depth_ones(turned, [[[1]]], 2)]
[0, (9, 22), 2, 0]

>>> from numbertypes.realms import Realm
>>> from numbertypes.unseen import Unseen
>>> log = Unseen()
>>> [log.note(Realm(swaps=6), True), log.judge(Realm(swaps=12)), log.judge(Realm(swaps=4)), log.note(Realm(swaps=4), False), log.judge(Realm(swaps=2))]
[1, 'right', 'open', 2, 'wrong']
"""


class ExamplesTest(unittest.TestCase):
    def test_examples(self):
        for block in EXAMPLES.split("\n\n"):
            example = doctest.DocTestParser().get_doctest(block + "\n", {}, "Examples", "DOC.md", 0)
            self.assertGreater(len(example.examples), 3)
            self.assertEqual(doctest.DocTestRunner(verbose=False).run(example).failed, 0)


if __name__ == "__main__":
    unittest.main()
