"""In which rings programs are right: realms of programs, agreements, verdicts and their papers."""

import unittest
from itertools import product

from drawn import Drawer
from numbertypes.builds import Duals, Matrices, Triangles
from numbertypes.errors import UnknownName, WrongCount
from numbertypes.fits import Fails, Right, Stops, Verdict, agreement, fits, realm_of, verdict
from numbertypes.forms import Form
from numbertypes.programs import Program
from numbertypes.programtexts import read_program
from numbertypes.realms import Realm
from numbertypes.rings import Fractions, Rests, Sets, Whole
from numbertypes.tables import table_of
from numbertypes.wider import Pairs, Quaternions, Swapped, Twists, Words
from numbertypes.wishes import Wish
from samples import ANY_VALUES, all_samples, fails, moved_table, same, small_rings
from test_forms import names_of_methods

# Rings with few things, so that programs with two inputs can be run for all of them.
TINY = [ring for ring in small_rings() if ring.size() <= 16]
ALL_RINGS = [ring for ring, _ in all_samples()] + small_rings()


def is_right(program, wish, ring):
    """Whether a program is right, by running it for all things."""
    if not all(ring.has_inverse(q) for q in program.denominators()):
        return False
    for things in product(list(ring.things()), repeat=len(program.inputs)):
        named = dict(zip(program.inputs, things))
        if program.run(ring, *things) != [form.value(ring, named) for form in wish.forms()]:
            return False
    return True


def drawn_pairs(seed, count, inputs=("a", "b"), divisors=(1, 1, 2, 3)):
    made = Drawer(seed)
    programs = [made.program(list(inputs), divisors) for _ in range(count)]
    return [(program, made.wish_for(program)) for program in programs]


def square_program():
    return read_program("in x\ny = x * x\nout y\n")


def swap_program():
    return read_program("in x y\np = x * y\nq = y * x\nr = p - q\nout r\n")


def great_primes(primes):
    steps = [("constant", name, 1, q) for name, q in zip("bcdefgh", primes)]
    return Program(["a"], steps, ["a"])


class RealmsTest(unittest.TestCase):
    def test_examples(self):
        program = square_program()
        for text, expected in (
            ("x\n", "Realm(1, 2, 1, 1)"), ("x*x + 6\n", "Realm(1, 6, 6, 6)"), ("x*x\n", "Realm(1, 0, 0, 0)"),
            ("x*x + 1\n", "Realm(1, 1, 1, 1)"), ("7*x*x - 6*x\n", "Realm(1, 12, 6, 6)"),
            ("-x*x\n", "Realm(1, 2, 2, 2)"),
            ("4*x*x - 3*x + 12\n", "Realm(1, 6, 3, 3)"), ("0\n", "Realm(1, 1, 1, 1)"),
        ):
            self.assertEqual(repr(realm_of(program, Wish.read(text))), expected)
        for text, expected in (
            ("0\n", "Realm(1, 0, 1, 0)"), ("x*y - y*x\n", "Realm(1, 0, 0, 0)"),
            ("3*x*y - 3*y*x\n", "Realm(1, 0, 2, 0)"),
            ("5*y*x - 5*x*y\n", "Realm(1, 0, 6, 0)"), ("5*x*y - 5*y*x\n", "Realm(1, 0, 4, 0)"),
            ("x*y\n", "Realm(1, 1, 1, 1)"),
            ("7*x*y - y*x\n", "Realm(1, 6, 6, 6)"), ("5*x*y - 5*y*x + 8\n", "Realm(1, 8, 4, 8)"),
        ):
            self.assertEqual(repr(realm_of(swap_program(), Wish.read(text))), expected)

    def test_denominators(self):
        program = read_program("in x y\na = x + y\nb = a * a\nc = 3/6 * b\nd = 2/2 * c\nout d\n")
        for text, expected in (
            ("0\n", "Realm(1, 1, 1, 1)"), ("x*x + y*y\n", "Realm(1, 1, 1, 1)"), ("x*x + x*y\n", "Realm(1, 1, 1, 1)"),
            ("8*x*x + 8*y*y + 8*x*y + 8*y*x\n", "Realm(1, 5, 5, 5)"), ("x*y + y*x\n", "Realm(1, 1, 1, 1)"),
        ):
            self.assertEqual(repr(realm_of(program, Wish.read(text))), expected)
        program = read_program("in x\na = 1/2 * x\nb = 2 * a\nc = 1/15\nout b\n")
        self.assertEqual(repr(realm_of(program, Wish.read("x\n"))), "Realm(30, 0, 0, 0)")
        self.assertEqual(repr(realm_of(program, Wish.read("8*x\n"))), "Realm(1, 7, 7, 7)")
        self.assertEqual(repr(realm_of(program, Wish.read("7*x\n"))), "Realm(1, 1, 1, 1)")

    def test_several_outputs(self):
        program = read_program("in x y\np = x * x\nq = x * y\nr = y * x\nout p q r\n")
        self.assertEqual(repr(realm_of(program, Wish.read("x*x + 4\nx*y\nx*y\n"))), "Realm(1, 4, 1, 4)")
        self.assertEqual(repr(realm_of(program, Wish.read("x*x + 4*x\nx*y + 6\ny*x\n"))), "Realm(1, 2, 2, 2)")
        self.assertEqual(repr(realm_of(program, Wish.read("x\ny*x\ny*x\n"))), "Realm(1, 2, 1, 1)")

    def test_each_output_has_its_own_common_denominator(self):
        program = read_program("in x\na = 1/2 * x\nb = 1/3 * x\nout a b\n")
        self.assertEqual(repr(realm_of(program, Wish.read("3*x\n2*x\n"))), "Realm(1, 5, 5, 5)")

    def test_runs_in_small_rings(self):
        right = 0
        for program, wish in drawn_pairs(1, 60):
            realm = realm_of(program, wish)
            for ring in TINY:
                expected = is_right(program, wish, ring)
                self.assertIs(ring in realm, expected, (ring, program.text(), wish.text()))
                self.assertIs(fits(program, wish, ring), expected)
                right += expected
        self.assertGreater(right, 200)

    def test_three_inputs(self):
        for program, wish in drawn_pairs(2, 25, ("c", "a", "b")):
            for ring in TINY:
                if ring.size() <= 9:
                    self.assertIs(fits(program, wish, ring), is_right(program, wish, ring), (ring, program.text()))

    def test_rings_with_the_same_numbers(self):
        groups = {}
        for ring in TINY:
            groups.setdefault((ring.ones, ring.swaps, ring.squares), []).append(ring)
        groups = [group for group in groups.values() if len(group) > 1]
        self.assertGreater(len(groups), 4)
        for program, wish in drawn_pairs(3, 40):
            for group in groups:
                self.assertEqual(len({is_right(program, wish, ring) for ring in group}), 1, group)

    def test_errors_in_their_order(self):
        program = swap_program()
        for call in (realm_of, lambda p, w: fits(p, w, Rests(5)), lambda p, w: verdict(p, w, Rests(5))):
            fails(self, WrongCount, {"given": 2}, call, program, Wish.read("z\nz\n"))
            fails(self, WrongCount, {"given": 1}, call, read_program("in x\nout x x\n"), Wish.read("a\n"))
            fails(self, UnknownName, {"name": "p"}, call, program, Wish.read("p*q + x\n"))
            fails(self, UnknownName, {"name": "a"}, call, read_program("in x\nout x x x\n"), Wish.read("z\nb\nx*a\n"))
            fails(self, UnknownName, {"name": "xx"}, call, program, Wish.read("xx*y + zz\n"))

    def test_arguments_by_name(self):
        program, wish = square_program(), Wish.read("x\n")
        self.assertEqual(realm_of(wish=wish, program=program), realm_of(program, wish))
        self.assertIs(fits(ring=Sets(2), wish=wish, program=program), True)
        self.assertEqual(verdict(ring=Sets(2), wish=wish, program=program).told(), "right")
        self.assertEqual(agreement(other=program, one=program), Realm.everywhere())

    def test_huge_numbers(self):
        steps = [("constant", "za", 10**30 + 57, 7)]
        for at in range(11):
            steps.append(("multiply", "z" + chr(ord("b") + at), steps[-1][1], steps[-1][1]))
        program = Program(["x"], steps, [steps[-1][1]])
        realm = realm_of(program, Wish(Form()))
        self.assertEqual(realm.ones, (10**30 + 57) ** 2048)
        self.assertEqual(repr(realm).count("1" + "0" * 20), 3)
        self.assertFalse(fits(program, Wish(Form()), Rests(11)))
        for prime in (11, 13, 17):
            value = (10**30 + 57) * pow(7, -1, prime) % prime
            value = pow(value, 2048, prime)
            self.assertTrue(fits(program, Wish(Form([((), value + prime * 10**5000, 1)])), Rests(prime)))
            self.assertFalse(fits(program, Wish(Form([((), value + 1, 1)])), Rests(prime)))


class AgreementTest(unittest.TestCase):
    def test_examples(self):
        one = read_program("in a b\nc = a * b\nd = 1/2 * c\nout d\n")
        other = read_program("in b a\nc = a * b\nd = 1/3 * c\nout d\n")
        # a stands for b, so both products have other orders.
        self.assertEqual(repr(agreement(one, other)), "Realm(1, 1, 1, 1)")
        other = read_program("in b a\nc = b * a\nd = 1/2 * c\ne = 1/7\nout d\n")
        self.assertEqual(repr(agreement(one, other)), "Realm(14, 0, 0, 0)")
        other = read_program("in b a\nc = a * b\nd = 1/2 * c\nout d\n")
        self.assertEqual(repr(agreement(one, other)), "Realm(2, 0, 1, 0)")
        other = read_program("in x y\nc = x * y\nd = 15/2 * c\nout d\n")
        self.assertEqual(repr(agreement(one, other)), "Realm(1, 7, 7, 7)")

    def test_runs_in_small_rings(self):
        made = Drawer(30)
        programs = [made.program(["a", "b"], (1, 2), most=3) for _ in range(20)]
        programs += [made.program(["b", "a"], (1, 3), most=3) for _ in range(10)]
        programs += [read_program("in x y\nz = x * y\nout z\n"), read_program("in y x\nz = x * y\nout z\n")]
        agreed = 0
        for one in programs:
            for other in programs:
                if len(one.outputs) != len(other.outputs):
                    continue
                realm = agreement(one, other)
                self.assertEqual(realm, agreement(other, one))
                for ring in TINY[::3]:
                    expected = all(ring.has_inverse(q) for q in one.denominators() + other.denominators()) and all(
                        one.run(ring, x, y) == other.run(ring, x, y) for x in ring.things() for y in ring.things()
                    )
                    self.assertIs(ring in realm, expected, (ring, one.text(), other.text()))
                    agreed += expected
        self.assertGreater(agreed, 100)

    def test_agreement_with_itself(self):
        for program, _ in drawn_pairs(5, 20):
            self.assertEqual(agreement(program, program), Realm(inverse=program.divisor))
            self.assertEqual(agreement(program, program.flat()), Realm(inverse=program.divisor))

    def test_wrong_counts(self):
        one = read_program("in a b\nout a\n")
        fails(self, WrongCount, {"given": 1}, agreement, one, read_program("in a\nout a a\n"))
        fails(self, WrongCount, {"given": 3}, agreement, one, read_program("in a b c\nout a\n"))
        fails(self, WrongCount, {"given": 4}, agreement, one, read_program("in a b\nout a a a a\n"))


class VerdictsTest(unittest.TestCase):
    def check(self, program, wish, ring):
        paper = verdict(program, wish, ring)
        self.assertIsInstance(paper, Verdict)
        self.assertIs(paper.holds(), True, (ring, program.text(), wish.text()))
        self.assertIs(bool(paper), fits(program, wish, ring))
        self.assertEqual((paper.program, paper.wish, paper.ring), (program, wish, ring))
        stops = [q for q in program.denominators() if not ring.has_inverse(q)]
        if stops:
            self.assertEqual((paper.told(), paper.divisor), ("stops", stops[0]))
        elif fits(program, wish, ring):
            self.assertEqual(paper.told(), "right")
        else:
            self.assertEqual(paper.told(), "fails")
            self.check_inputs(program, wish, ring, paper)
        return paper.told()

    def check_inputs(self, program, wish, ring, paper):
        self.assertIsInstance(paper.inputs, tuple)
        named = dict(zip(program.inputs, paper.inputs))
        made = program.run(ring, *paper.inputs)[paper.output]
        self.assertNotEqual(made, wish.forms()[paper.output].value(ring, named))
        # At most two inputs are not zero; that covers all kinds of [16].
        self.assertLessEqual(len([x for x in paper.inputs if x != ring.zero()]), 2)

    def test_small_rings(self):
        counts = {"right": 0, "fails": 0, "stops": 0}
        for program, wish in drawn_pairs(6, 60) + drawn_pairs(7, 30, ("d", "b", "a", "c")):
            for ring in TINY:
                counts[self.check(program, wish, ring)] += 1
        self.assertGreater(min(counts.values()), 100)

    def test_rings_of_all_kinds(self):
        for program, wish in drawn_pairs(8, 15) + drawn_pairs(9, 10, ("c", "a", "b"), (1, 5, 7)):
            for ring in ALL_RINGS:
                self.check(program, wish, ring)

    def test_each_kind_of_inputs(self):
        program = read_program("in b a\np = a * a\nq = a * b\nout p q b\n")
        two = Triangles(Rests(2))
        for wish, ring, inputs, output in (
            ("a*a + 1\na*b\nb\n", Rests(4), (0, 0), 0), ("a*a\na*b\nb + 6\n", Rests(4), (0, 0), 2),
            ("a*a\na*b\n2*b\n", Rests(4), (1, 0), 2), ("a*a + 2*a\na*b\nb\n", Rests(4), (0, 1), 0),
            ("a*a\na*b + b*a\nb\n", Rests(4), (1, 1), 1),
        ):
            paper = verdict(program, Wish.read(wish), ring)
            self.assertEqual((paper.inputs, paper.output), (inputs, output))
        paper = verdict(program, Wish.read("a\na*b\nb\n"), Rests(3))
        self.assertEqual((paper.inputs[0], paper.output), (0, 0))
        self.assertNotIn(paper.inputs[1], (0, 1))
        paper = verdict(program, Wish.read("a*a\nb*a\nb\n"), two)
        self.assertEqual(paper.output, 1)
        self.assertNotEqual(two.product(*paper.inputs), two.product(*reversed(paper.inputs)))

    def test_inputs_that_do_not_ascend(self):
        program = read_program("in d b c a\np = d * b\nq = c * a\nout p q\n")
        for wish, zeros in (("b*d\nc*a\n", (2, 3)), ("d*b\na*c\n", (0, 1))):
            ring = Matrices(2, Rests(3))
            paper = verdict(program, Wish.read(wish), ring)
            self.assertTrue(paper.holds())
            for at in zeros:
                self.assertEqual(paper.inputs[at], ring.zero())
        paper = verdict(program, Wish.read("d*b\nc*a + b\n"), Rests(7))
        self.assertEqual((paper.inputs, paper.output), ((0, 1, 0, 0), 1))

    def test_great_primes(self):
        program = great_primes([997, 991, 983, 977])
        wish = Wish.read("a\n")
        self.assertEqual(realm_of(program, wish).inverse, 997 * 991 * 983 * 977)
        for ring, q in ((Rests(983), 983), (Rests(991 * 983), 991), (Rests(977), 977), (Whole(997), 991),
                        (Whole(), 997)):
            paper = verdict(program, wish, ring)
            self.assertEqual((paper.told(), paper.divisor, paper.holds()), ("stops", q, True))
        for ring in (Rests(10**9), Fractions(), Matrices(3, Rests(971)), Words(2, Fractions())):
            self.assertEqual(verdict(program, wish, ring).told(), "right")
        paper = verdict(great_primes([997, 991]), Wish.read("2*a\n"), Duals(Rests(10**9)))
        self.assertEqual((paper.inputs, paper.holds()), (((1, 0),), True))

    def test_tables_as_rings(self):
        tables = [table_of(ring) for ring in (Triangles(Rests(2)), Matrices(2, Rests(2)), Rests(6), Sets(3))]
        tables.append(moved_table(Rests(6), [4, 2, 0, 5, 1, 3]))
        for program, wish in drawn_pairs(11, 40):
            for ring in tables:
                self.check(program, wish, ring)
                self.assertIs(fits(program, wish, ring), is_right(program, wish, ring))

    def test_document(self):
        paper = verdict(swap_program(), Wish.read("0\n"), Matrices(2, Rests(3)))
        self.assertEqual([paper.told(), paper.holds()], ["fails", True])
        self.assertEqual(verdict(swap_program(), Wish.read("0\n"), Quaternions(Rests(2))).told(), "right")


class PapersTest(unittest.TestCase):
    def setUp(self):
        self.program = read_program("in x y\np = x * y\nq = 1/3 * p\nr = y * x\nout p r\n")
        self.wish = Wish.read("x*y\nx*y\n")
        self.ring = Matrices(2, Rests(4))
        self.x, self.y = ((1, 0), (0, 0)), ((0, 1), (0, 0))

    def test_base_class(self):
        paper = Verdict(self.program, self.wish, self.ring)
        self.assertEqual((paper.told(), paper.holds(), bool(paper), repr(paper)),
                         ("open", False, False, "Verdict(open)"))
        self.assertIs(paper.program, self.program)
        self.assertIs(paper.wish, self.wish)
        self.assertIs(paper.ring, self.ring)
        paper = Verdict(ring=self.ring, wish=self.wish, program=self.program)
        self.assertEqual(paper.ring, self.ring)

    def test_methods_stand_in_the_classes(self):
        self.assertLessEqual({"program", "wish", "ring", "told", "holds", "__bool__", "__repr__"},
                             names_of_methods(Verdict))
        for kind, more in ((Right, set()), (Fails, {"inputs", "output"}), (Stops, {"divisor"})):
            self.assertEqual(kind.__bases__, (Verdict,))
            self.assertLessEqual({"__init__", "told", "holds", "__bool__"} | more, names_of_methods(kind))

    def test_properties_stay(self):
        for paper, names in (
            (Right(self.program, self.wish, self.ring), ("program", "wish", "ring")),
            (Fails(self.program, self.wish, self.ring, [], 0), ("program", "inputs", "output")),
            (Stops(self.program, self.wish, self.ring, 2), ("ring", "divisor")),
        ):
            for name in names:
                with self.assertRaises(AttributeError):
                    setattr(paper, name, 1)

    def test_right(self):
        for ring, holds in ((Rests(4), True), (self.ring, False), (Rests(3), False), (Swapped(Rests(5)), True)):
            paper = Right(self.program, self.wish, ring)
            self.assertEqual((paper.told(), bool(paper), repr(paper)), ("right", True, "Verdict(right)"))
            self.assertIs(paper.holds(), holds)
        paper = Right(ring=Rests(4), program=self.program, wish=self.wish)
        self.assertIs(paper.holds(), True)

    def test_fails(self):
        def paper(inputs, output, ring=self.ring):
            found = Fails(self.program, self.wish, ring, inputs, output)
            self.assertEqual((found.told(), bool(found), repr(found)), ("fails", False, "Verdict(fails)"))
            return found

        self.assertIs(paper([self.x, self.y], 1).holds(), True)
        self.assertIs(paper((self.x, self.y), 1).holds(), True)
        self.assertIs(paper((self.x, self.y), 0).holds(), False)
        self.assertIs(paper((self.x, self.x), 1).holds(), False)
        self.assertIs(paper([self.x, self.y], 1).inputs == (self.x, self.y), True)
        self.assertEqual(paper((self.x, self.y), 1).output, 1)
        for inputs in ((), (self.x,), (self.x, self.y, self.y), (self.x, 0), ([[1, 0], [0, 0]], self.y),
                       (self.x, None)):
            self.assertIs(paper(inputs, 1).holds(), False)
        for output in (2, -1, -2, True, False, None, "1", (1,), [1], 10**40):
            self.assertIs(paper((self.x, self.y), output).holds(), False)
        self.assertIs(paper((1, 2), 1, Rests(4)).holds(), False)
        self.assertIs(paper((self.x, self.y), 1, Matrices(2, Rests(6))).holds(), False)
        found = Fails(output=1, inputs=[self.x, self.y], ring=self.ring, wish=self.wish, program=self.program)
        self.assertIs(found.holds(), True)

    def test_fails_with_any_values(self):
        for value in ANY_VALUES:
            found = Fails(self.program, self.wish, self.ring, value, value)
            self.assertIs(found.holds(), False)
            self.assertTrue(same(found.inputs, tuple(value) if isinstance(value, list) else value))
            self.assertTrue(same(found.output, value))
            found = Fails(self.program, self.wish, self.ring, [value, self.y], value)
            self.assertIs(found.holds(), False)
            self.assertTrue(same(found.inputs, (value, self.y)))

    def test_lists_are_copied(self):
        inputs = [self.x, [self.y, [1]]]
        output = [[1]]
        paper = Fails(self.program, self.wish, self.ring, inputs, output)
        inputs[1][1].append(2)
        inputs.append(3)
        output[0].append(2)
        self.assertEqual((paper.inputs, paper.output), ((self.x, [self.y, [1]]), [[1]]))
        paper.inputs[1].append(5)
        paper.output.append(5)
        self.assertEqual((paper.inputs, paper.output), ((self.x, [self.y, [1]]), [[1]]))
        divisor = [1, (2, [3])]
        paper = Stops(self.program, self.wish, self.ring, divisor)
        divisor[1][1].append(4)
        paper.divisor[1][1].append(5)
        self.assertEqual(paper.divisor, [1, (2, [3])])
        inputs = [self.x, self.y]
        paper = Fails(self.program, self.wish, self.ring, inputs, 1)
        inputs[1] = self.x
        self.assertIs(paper.holds(), True)

    def test_stops(self):
        def paper(divisor, ring=Rests(6)):
            found = Stops(self.program, self.wish, ring, divisor)
            self.assertEqual((found.told(), bool(found), repr(found)), ("stops", False, "Verdict(stops)"))
            return found

        self.assertIs(paper(3).holds(), True)
        self.assertIs(paper(3, Whole()).holds(), True)
        self.assertIs(paper(3, Rests(4)).holds(), False)
        for value in ANY_VALUES + [2, 6, 9, -3, (3,), [3], "3"]:
            self.assertIs(paper(value).holds(), False)
            self.assertTrue(same(paper(value).divisor, value))
        ones = Program(["a"], [("constant", "b", 1, 1)], ["a"])
        self.assertIs(Stops(ones, Wish.read("a\n"), Rests(6), True).holds(), False)
        self.assertIs(Stops(ones, Wish.read("a\n"), Rests(6), 1).holds(), False)
        unused = Program(["a"], [], ["a"], procedures=[("f", ["x"], [("constant", "y", 1, 3)], "x")])
        self.assertIs(Stops(unused, Wish.read("a\n"), Rests(6), 3).holds(), False)
        called = Program(["a"], [("call", "b", "f", ("a",))], ["a"], procedures=unused.procedures)
        self.assertIs(Stops(divisor=3, ring=Rests(6), wish=Wish.read("a\n"), program=called).holds(), True)

    def test_wishes_that_do_not_go_with_the_program(self):
        for wish in (Wish.read("x*y\n"), Wish.read("x*y\nx*y\n0\n"), Wish.read("x*y\nz\n")):
            self.assertIs(Right(self.program, wish, Rests(4)).holds(), False)
            self.assertIs(Fails(self.program, wish, self.ring, (self.x, self.y), 1).holds(), False)

    def test_twists_are_right_or_fail(self):
        program = swap_program()
        for part in (1, 2, 3, 6):
            ring = Twists(part, Rests(6))
            wish = Wish.read("7*x*y - 7*y*x\n")
            self.assertIs(verdict(program, wish, ring).holds(), True)
            self.assertEqual(verdict(program, Wish.read("0\n"), ring).told(), "right" if part == 1 else "fails")
        self.assertEqual(verdict(program, Wish.read("3*x*y - 3*y*x\n"), Pairs(Twists(2, Rests(8)), Rests(9))).told(),
                         "right")


if __name__ == "__main__":
    unittest.main()
