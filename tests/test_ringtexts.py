"""read_ring."""

import unittest

from numbertypes.builds import Duals, Matrices, Polynomials, Roots, Triangles
from numbertypes.errors import InvalidText
from numbertypes.ringtexts import read_ring
from numbertypes.rings import Fractions, Rests, Sets, Whole
from numbertypes.tables import table_of
from numbertypes.wider import Pairs, Quaternions, Swapped, Twists, Words
from samples import ANY_VALUES, all_samples, fails

RINGS = [
    ("whole(1)", Whole()), ("whole(6)", Whole(6)), ("whole(999983)", Whole(999983)), ("fractions", Fractions()),
    ("rests(2)", Rests(2)), ("rests(1000000000)", Rests(10**9)), ("rests(10)", Rests(10)), ("sets(1)", Sets(1)),
    ("sets(10)", Sets(10)), ("matrices(2, rests(3))", Matrices(2, Rests(3))),
    ("matrices(3, fractions)", Matrices(3, Fractions())), ("triangles(whole(2))", Triangles(Whole(2))),
    ("polynomials(sets(4))", Polynomials(Sets(4))), ("duals(rests(9))", Duals(Rests(9))),
    ("roots(-99, rests(5))", Roots(-99, Rests(5))), ("roots(0, rests(5))", Roots(0, Rests(5))),
    ("roots(99, rests(5))", Roots(99, Rests(5))), ("roots(-1, whole(1))", Roots(-1, Whole())),
    ("words(1, rests(5))", Words(1, Rests(5))), ("words(3, fractions)", Words(3, Fractions())),
    ("pairs(rests(5), sets(2))", Pairs(Rests(5), Sets(2))),
    ("pairs(fractions, fractions)", Pairs(Fractions(), Fractions())),
    ("pairs(pairs(rests(2), rests(3)), pairs(rests(4), rests(5)))",
     Pairs(Pairs(Rests(2), Rests(3)), Pairs(Rests(4), Rests(5)))),
    ("quaternions(rests(3))", Quaternions(Rests(3))),
    ("quaternions(quaternions(sets(1)))", Quaternions(Quaternions(Sets(1)))),
    ("swapped(matrices(2, rests(3)))", Swapped(Matrices(2, Rests(3)))), ("twists(4, rests(8))", Twists(4, Rests(8))),
    ("twists(5, whole(6))", Twists(5, Whole(6))), ("twists(1000000, whole(3))", Twists(1000000, Whole(3))),
    ("matrices(2, triangles(duals(rests(4))))", Matrices(2, Triangles(Duals(Rests(4))))),
    ("pairs(roots(2, roots(-3, rests(5))), words(2, pairs(fractions, whole(10))))",
     Pairs(Roots(2, Roots(-3, Rests(5))), Words(2, Pairs(Fractions(), Whole(10))))),
]

BENT = [
    "", " ", "\n", "(", ")", "()", ",", "whole", "whole()", "whole( )", "whole(1", "whole(1))", "whole((1))",
    "whole 1", "(1)", "1", "-1", "whole[1]", "Whole(1)", "WHOLE(1)", "whole (1)", " whole(1)", "whole(1) ",
    "whole(1)\n", "whole( 1)", "whole(1 )", "whole(01)", "whole(+1)", "whole(-1)", "whole(0)", "whole(-0)",
    "whole(1000001)", "whole(1, 1)", "whole(1,)", "whole(1, )", "whole(a)", "whole(1.0)", "whole(1e3)", "whole(1_0)",
    "whole(whole(1))", "whole(fractions)", "fractions()", "fractions(1)", "fractions ", " fractions", "Fractions",
    "fraction", "fractionss", "fractions\n", "rests", "rests()", "rests(1)", "rests(0)", "rests(-2)",
    "rests(1000000001)", "rests(002)", "rests(2, 3)", "rest(2)", "rests(" + "9" * 3900 + ")", "rests(2)rests(3)",
    "rests(2), rests(3)", "rests(rests(2))", "sets(0)", "sets(11)", "sets(-1)", "sets", "sets()", "set(1)",
    "matrices(2,rests(3))", "matrices(2,  rests(3))", "matrices(2 , rests(3))", "matrices(2 rests(3))",
    "matrices(1, rests(3))", "matrices(4, rests(3))", "matrices(02, rests(3))", "matrices(rests(3), 2)",
    "matrices(2)", "matrices(rests(3))", "matrices(2, 3)", "matrices(2, rests(3), rests(3))", "matrices(2, rests(3)",
    "matrices(2, rests(3)))", "matrices(2, rests(1))", "matrices(2, )", "matrices(, rests(3))",
    "matrices(2, rests(3) )", "matrices(2, rests(3), )", "triangles", "triangles()", "triangles(2)",
    "triangles(rests(2), rests(2))", "triangles(rests)", "triangles(rests(1))",
    "triangles(triangles(triangles(triangles(rests(2)))))", "polynomials(2)", "polynomials(rests(2), 1)", "duals()",
    "duals(1)", "duals(duals(duals(duals(rests(2)))))", "duals(" * 500 + "rests(2)" + ")" * 500,
    "(" * 2000 + ")" * 2000, "roots(100, rests(5))", "roots(-100, rests(5))", "roots(-0, rests(5))",
    "roots(00, rests(5))", "roots(-01, rests(5))", "roots(+1, rests(5))", "roots(--1, rests(5))",
    "roots(-, rests(5))", "roots(- 1, rests(5))", "roots(rests(5))", "roots(1-, rests(5))", "roots(rests(5), 1)",
    "words(0, rests(2))", "words(4, rests(2))", "words(-1, rests(2))", "words(rests(2))", "words(2, 2)",
    "pairs(rests(2))", "pairs(rests(2), rests(3), rests(4))", "pairs(rests(2),rests(3))", "pairs(rests(2), 3)",
    "pairs(3, rests(2))", "pairs(rests(2)), (rests(3))", "pairs(rests(2), rests(3)) ", "pairs(rests(2), rests(1))",
    "pairs(rests(1), rests(2))", "pairs(rests(2)), rests(3)", "pairs(rests(2); rests(3))", "pairs(, )",
    "pairs(fractions, triangles(triangles(triangles(rests(2)))) ", "quaternions(matrices(2, rests(3)))",
    "pairs(fractions, triangles(triangles(triangles(rests(2)))))", "quaternions(quaternions(whole(1)))",
    "quaternions(words(2, rests(2)))", "quaternions()", "quaternions(1)",
    "quaternions(triangles(triangles(triangles(rests(2)))))", "swapped()", "swapped(2)",
    "swapped(rests(2), rests(2))", "swapped(swapped(swapped(swapped(rests(2)))))", "twists(3, rests(4))",
    "twists(0, rests(4))", "twists(-2, rests(4))", "twists(2, whole(6))", "twists(5, fractions)",
    "twists(1, sets(1))", "twists(1, twists(1, rests(2)))", "twists(rests(4))", "twists(02, rests(4))",
    "twists(2, duals(rests(4)))", "twists(1000001, whole(1))", "table(2)", "table", "table()", "table(3)",
    "duals(table(2))", "pairs(table(2), rests(2))", "pairs(rests(2), table(2))", "swapped(table(4))",
    "ring(rests(2))", "Ring(rests(2))", "integers", "x", "rests(2)x", "rests(2) rests(2)", "rests\n(2)", "rests(2\n)",
    "pairs(rests(2),\nrests(3))", "rests(2)(", "rests)2(", "matrices(2, (rests(3)))",
]


class ReadRingTest(unittest.TestCase):
    def test_texts_of_rings(self):
        for text, ring in RINGS:
            self.assertEqual(ring.text(), text)
            found = read_ring(text)
            self.assertEqual(found, ring)
            self.assertIs(type(found), type(ring))
            self.assertEqual(found.text(), text)
            self.assertEqual((found.ones, found.swaps, found.squares), (ring.ones, ring.swaps, ring.squares))

    def test_texts_of_samples(self):
        for ring, things in all_samples():
            text = ring.text()
            if "table" in text:
                fails(self, InvalidText, {"line": 0}, read_ring, text)
                continue
            found = read_ring(text)
            self.assertEqual(found, ring)
            self.assertEqual(found.product(things[-2], things[-1]), ring.product(things[-2], things[-1]))

    def test_whole_with_any_number(self):
        for number, primes in ((1, 1), (4, 2), (8, 2), (12, 6), (36, 6), (1000000, 10), (999999, 111111)):
            ring = read_ring("whole(" + str(number) + ")")
            self.assertEqual(ring, Whole(number))
            self.assertEqual(ring.text(), "whole(" + str(primes) + ")")
        for number in range(1, 200):
            self.assertEqual(read_ring("whole(" + str(number) + ")"), Whole(number))
        self.assertEqual(read_ring("matrices(2, whole(12))"), Matrices(2, Whole(6)))
        self.assertEqual(read_ring("pairs(whole(4), twists(9, whole(8)))"), Pairs(Whole(2), Twists(9, Whole(2))))

    def test_bounds(self):
        for square in range(-99, 100):
            self.assertEqual(read_ring("roots(" + str(square) + ", rests(5))"), Roots(square, Rests(5)))
        for points in range(1, 11):
            self.assertEqual(read_ring("sets(" + str(points) + ")"), Sets(points))
        for modulus in (2, 3, 9, 10, 100, 101, 999999999, 10**9):
            self.assertEqual(read_ring("rests(" + str(modulus) + ")"), Rests(modulus))
        for size in (2, 3):
            self.assertEqual(read_ring("matrices(" + str(size) + ", rests(5))"), Matrices(size, Rests(5)))
        for letters in (1, 2, 3):
            self.assertEqual(read_ring("words(" + str(letters) + ", rests(5))"), Words(letters, Rests(5)))

    def test_bent_texts(self):
        for text in BENT:
            fails(self, InvalidText, {"line": 0}, read_ring, text)

    def test_one_character_more_or_less(self):
        for text, _ in RINGS:
            for at in range(len(text)):
                self.refused_or_another(text, text[:at] + text[at + 1 :])
            for at in range(len(text) + 1):
                for sign in " ,()-0":
                    self.refused_or_another(text, text[:at] + sign + text[at:])

    def refused_or_another(self, text, bent):
        """A bent text may be that of another ring, but then it is written just so (but for whole)."""
        try:
            ring = read_ring(bent)
        except InvalidText as error:
            self.assertEqual(error.line, 0)
            return
        self.assertNotEqual(bent, text)
        if "whole" not in bent:
            self.assertEqual(ring.text(), bent)

    def test_values_that_are_no_strings(self):
        for value in ANY_VALUES + [Rests(2), ("rests(2)",), ["rests(2)"], table_of(Rests(2))]:
            fails(self, InvalidText, {"line": 0}, read_ring, value)
        fails(self, InvalidText, {"line": 0}, read_ring, text=5)

    def test_argument_by_name(self):
        self.assertEqual(read_ring(text="rests(6)"), Rests(6))


if __name__ == "__main__":
    unittest.main()
