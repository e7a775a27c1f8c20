"""Schemes: their tables, schemes of programs, schemes turned, runs, and where they are right."""

import unittest
from fractions import Fraction
from itertools import permutations, product
from math import gcd
from random import Random

from drawn import Drawer
from numbertypes.builds import Matrices
from numbertypes.errors import (
    InvalidNumber,
    InvalidOrder,
    InvalidProduct,
    InvalidTable,
    InvalidThing,
    NotStraight,
    TooMany,
    WrongCount,
)
from numbertypes.forms import Form
from numbertypes.programs import Program
from numbertypes.rings import Rests, Whole
from numbertypes.schemes import Scheme
from samples import ANY_VALUES, all_samples, fails, same
from test_forms import names_of_methods

HUGE = 10**30
ORDERS = list(permutations(range(3)))
THREE = [([1, 0], [1, 0], [1, -1, 0]), ([0, 1], [0, 1], [0, -1, 1]), ([1, 1], [1, 1], [0, 1, 0])]
WISHED = [[[1, 0, 0], [0, 1, 0]], [[0, 1, 0], [0, 0, 1]]]


def sample():
    """Two sums are multiplied by three products instead of four."""
    return Scheme((2, 2, 3), THREE)


def drawn_scheme(random, most_size=4, most_products=6, great=3):
    sizes = tuple(random.randint(1, most_size) for _ in range(3))
    products = [
        tuple([random.choice([0, 0, random.randint(-great, great)]) for _ in range(size)] for size in sizes)
        for _ in range(random.randint(0, most_products))
    ]
    return Scheme(sizes, products)


def table_by_hand(scheme):
    left, right, result = scheme.sizes
    return [[[sum(u[i] * v[j] * w[k] for u, v, w in scheme.products) for k in range(result)] for j in range(right)]
            for i in range(left)]


def adds_by_hand(scheme):
    """The adds of [25] of the left inputs, of the right inputs and of the results."""
    counts = [[sum(1 for entry in triple[role] if entry) for triple in scheme.products] for role in (0, 1)]
    counts.append([sum(1 for triple in scheme.products if triple[2][k]) for k in range(scheme.sizes[2])])
    return [sum(max(count - 1, 0) for count in part) for part in counts]


def near_table(random, table):
    """A wished table whose entries often differ from these by multiples of a number."""
    part = random.choice([0, 1, 2, 6, 10**9])
    return [[[entry + part * random.randint(-2, 2) for entry in row] for row in face] for face in table]


def differences(one, other):
    return [x - y for face, side in zip(one, other) for row, line in zip(face, side) for x, y in zip(row, line)]


class SchemeTest(unittest.TestCase):
    def test_parts(self):
        scheme = sample()
        self.assertTrue(same(scheme.sizes, (2, 2, 3)))
        self.assertTrue(same(scheme.products, tuple(tuple(tuple(row) for row in triple) for triple in THREE)))
        self.assertEqual((len(scheme), scheme.adds, repr(scheme)), (3, 4, "Scheme(2 x 2 x 3, 3 products)"))
        self.assertTrue(same(scheme.table(), WISHED))
        for name in ("sizes", "products", "adds"):
            with self.assertRaises(AttributeError):
                setattr(scheme, name, 1)
        self.assertLessEqual(
            {"sizes", "products", "adds", "table", "turned", "run", "right_ones", "__init__", "__len__", "__eq__",
             "__repr__"},
            names_of_methods(Scheme),
        )
        self.assertIsInstance(Scheme.__dict__["of"], staticmethod)

    def test_drawn_schemes(self):
        random = Random(1)
        for _ in range(300):
            scheme = drawn_scheme(random, great=random.choice([1, 3, HUGE]))
            self.assertEqual(scheme.table(), table_by_hand(scheme))
            self.assertEqual(scheme.adds, sum(adds_by_hand(scheme)))
            again = Scheme(products=list(scheme.products), sizes=scheme.sizes)
            self.assertEqual(again, scheme)
            self.assertEqual(len(scheme), len(scheme.products))

    def test_without_products(self):
        scheme = Scheme((1, 2, 1), [])
        self.assertEqual((len(scheme), scheme.adds, scheme.table()), (0, 0, [[[0], [0]]]))
        self.assertEqual(repr(scheme), "Scheme(1 x 2 x 1, 0 products)")
        self.assertEqual(scheme.run(Rests(5), [1], [2, 3]), [0])
        self.assertEqual(scheme.products, ())

    def test_adds(self):
        for products, adds in (
            ([([0, 0], [0, 0], [0, 0])], 0), ([([1, 1], [0, 2], [0, 0])], 1), ([([1, 1], [3, 2], [7, 1])], 2),
            ([([0, 1], [3, 0], [7, 1])] * 3, 4), ([([1, -1], [1, 0], [1, 0]), ([0, 0], [1, 1], [1, 1])], 3),
        ):
            self.assertEqual(Scheme((2, 2, 2), products).adds, adds)
        self.assertEqual(repr(Scheme((1, 1, 1), [([1], [1], [1])])), "Scheme(1 x 1 x 1, 1 products)")

    def test_copies(self):
        row = [1, 0]
        products = [(row, [0, 1], [1])]
        scheme = Scheme((2, 2, 1), products)
        row.append(3)
        products.append(None)
        self.assertEqual(scheme, Scheme((2, 2, 1), [((1, 0), (0, 1), (1,))]))
        table = scheme.table()
        table[0][1][0] = 9
        table[1][0].append(1)
        table[0].append([])
        table.append([])
        self.assertEqual(scheme.table(), [[[0], [1]], [[0], [0]]])

    def test_equality(self):
        scheme = sample()
        self.assertIs(scheme == sample(), True)
        self.assertIs(scheme != sample(), False)
        for other in (Scheme((2, 2, 3), THREE[:2]), Scheme((2, 2, 3), THREE[::-1]), scheme.turned((1, 2, 0))):
            self.assertIs(scheme == other, False)
        self.assertIs(Scheme((1, 2, 1), []) == Scheme((1, 1, 1), []), False)
        for value in ANY_VALUES + [(scheme.sizes, scheme.products), repr(scheme), scheme.table()]:
            self.assertIs(scheme == value, False)

    def test_greatest_scheme(self):
        random = Random(2)
        rows = [[random.choice([0] * 9 + [1, 2]) for _ in range(36)] for _ in range(1200)]
        scheme = Scheme((36, 36, 36), list(zip(rows[:400], rows[400:800], rows[800:])))
        self.assertEqual(scheme.table(), table_by_hand(scheme))


class ErrorsTest(unittest.TestCase):
    def test_sizes(self):
        for value in ANY_VALUES + [[2, 2, 3], (1, 2, 3, 4), (1, 2), ()]:
            if not isinstance(value, tuple) or len(value) != 3:
                fails(self, InvalidNumber, {"given": value}, Scheme, value, [None] * 401)
            if type(value) is not int or not 1 <= value <= 36:
                fails(self, InvalidNumber, {"given": value}, Scheme, (value, 0, None), [None] * 401)
                fails(self, InvalidNumber, {"given": value}, Scheme, (36, value, None), [None])
                fails(self, InvalidNumber, {"given": value}, Scheme, (1, 36, value), [None])
        for value in (0, 37, -1):
            fails(self, InvalidNumber, {"given": value}, Scheme, (2, value, True), [])

    def test_number_of_products(self):
        right = ([1], [1], [1])
        self.assertEqual(len(Scheme((1, 1, 1), [right] * 400)), 400)
        fails(self, TooMany, {"most": 400}, Scheme, (1, 1, 1), [right] * 401)
        fails(self, TooMany, {"most": 400}, Scheme, (1, 1, 1), [None] * 401)

    def test_products(self):
        right = ([1, 2], [3], (4,))
        for wrong in ANY_VALUES + [
            list(right), right[:2], right + ([1],), ([1], [3], [4]), ([1, 2], [3, 4], [4]), ([1, 2], [3], []),
            ([1, 2], [3], [True]), ([1, None], [3], [4]), ([1, "2"], [3], [4]), ("ab", [3], [4]), ([1, 2], 3, [4]),
            ([1, [2]], [3], [4]), (None, [3], [4]),
        ]:
            fails(self, InvalidProduct, {"at": 0}, Scheme, (2, 1, 1), [wrong, wrong])
            fails(self, InvalidProduct, {"at": 2}, Scheme, (2, 1, 1), [right, right, wrong, right, None])
        for value in ANY_VALUES:
            if type(value) is not int:
                fails(self, InvalidProduct, {"at": 0}, Scheme, (2, 1, 1), [([1, value], [3], [4])])
            if value != (1,) and value != [1]:
                fails(self, InvalidProduct, {"at": 0}, Scheme, (2, 1, 1), [([1, 2], value, [4])])


class TurnedTest(unittest.TestCase):
    def test_drawn_schemes(self):
        random = Random(3)
        for _ in range(60):
            scheme = drawn_scheme(random)
            table = scheme.table()
            wished = near_table(random, table)
            for order in ORDERS:
                turned = scheme.turned(order)
                self.assertEqual(turned.sizes, tuple(scheme.sizes[role] for role in order))
                self.assertEqual(turned.products, tuple(tuple(one[role] for role in order) for one in scheme.products))
                exchanged = [[[0] * turned.sizes[2] for _ in range(turned.sizes[1])] for _ in range(turned.sizes[0])]
                goal = [[[0] * turned.sizes[2] for _ in range(turned.sizes[1])] for _ in range(turned.sizes[0])]
                for places in product(*[range(size) for size in scheme.sizes]):
                    i, j, k = [places[role] for role in order]
                    exchanged[i][j][k] = table[places[0]][places[1]][places[2]]
                    goal[i][j][k] = wished[places[0]][places[1]][places[2]]
                self.assertEqual(turned.table(), exchanged)
                self.assertEqual(turned.right_ones(goal), scheme.right_ones(wished))

    def test_by_hand(self):
        scheme = Scheme((1, 2, 3), [([1], [2, 3], [4, 5, 6])])
        self.assertEqual(scheme.turned((1, 2, 0)), Scheme((2, 3, 1), [([2, 3], [4, 5, 6], [1])]))
        self.assertEqual(scheme.turned(order=(2, 0, 1)), Scheme((3, 1, 2), [([4, 5, 6], [1], [2, 3])]))
        self.assertEqual(scheme.turned((0, 1, 2)), scheme)
        self.assertEqual(scheme.turned((1, 2, 0)).turned((2, 0, 1)), scheme)

    def test_wrong_orders(self):
        for value in ANY_VALUES + [
            [0, 1, 2], (0, 1), (0, 1, 1), (0, 1, 3), (1, 2, 3), (0, True, 2), (False, 1, 2), (0, 1, 2, 0), "012",
            (0, 1, "2"), (0, 1, None), ([0], 1, 2), (-1, 0, 1), (0, 1, 10**5000), (2, 2, 2),
        ]:
            fails(self, InvalidOrder, {"given": value}, sample().turned, value)


class RunTest(unittest.TestCase):
    def test_in_many_rings(self):
        random = Random(4)
        for ring, things in all_samples():
            scheme = drawn_scheme(random, 3, 4)
            lefts = [random.choice(things) for _ in range(scheme.sizes[0])]
            rights = [random.choice(things) for _ in range(scheme.sizes[1])]
            table = scheme.table()
            expected = []
            for k in range(scheme.sizes[2]):
                total = ring.zero()
                for i, x in enumerate(lefts):
                    for j, y in enumerate(rights):
                        total = ring.plus(total, ring.times(table[i][j][k], ring.product(x, y)))
                expected.append(total)
            self.assertTrue(same(scheme.run(ring, lefts, rights), expected), ring)
            self.assertTrue(same(scheme.run(rights=tuple(rights), lefts=tuple(lefts), ring=ring), expected), ring)

    def test_by_hand(self):
        self.assertEqual(sample().run(Rests(100), [2, 3], [5, 7]), [10, 29, 21])
        ring = Matrices(2, Rests(7))
        x, y = ((1, 2), (3, 4)), ((0, 1), (1, 0))
        self.assertEqual(Scheme((1, 1, 1), [([2], [1], [3])]).run(ring, [x], [y]), [ring.times(6, ring.product(x, y))])

    def test_errors(self):
        scheme, ring = Scheme((2, 3, 1), []), Whole(2)
        for lefts, rights, given in (([], [], 0), ([1] * 3, [], 3), ([1] * 2, [1] * 2, 2), ([1] * 2, [], 0),
                                     ([1] * 3, [1] * 5, 3), ([None] * 2, [None] * 4, 4)):
            fails(self, WrongCount, {"given": given}, scheme.run, ring, lefts, rights)
        zero = (0, 1)
        for value in ANY_VALUES:
            if not ring.is_thing(value):
                fails(self, InvalidThing, {"given": value}, scheme.run, ring, [zero, value], ["other"] * 3)
                fails(self, InvalidThing, {"given": value}, scheme.run, ring, [zero] * 2, [zero, value, None])


class RightTest(unittest.TestCase):
    def test_drawn_tables(self):
        random = Random(5)
        seen = set()
        for _ in range(300):
            scheme = drawn_scheme(random)
            wished = near_table(random, scheme.table())
            expected = gcd(*differences(scheme.table(), wished))
            found = scheme.right_ones(wished)
            self.assertTrue(same(found, expected))
            seen.add(found)
            self.assertEqual(scheme.right_ones(tuple(tuple(tuple(row) for row in face) for face in wished)), expected)
        self.assertLessEqual({0, 1, 2, 6, 10**9}, seen)

    def test_by_runs(self):
        random = Random(6)
        for _ in range(40):
            scheme = drawn_scheme(random, 2, 4)
            wished = near_table(random, scheme.table())
            number = scheme.right_ones(wished)
            left, right, result = scheme.sizes
            for modulus in (2, 3, 4, 5, 6):
                ring = Rests(modulus)
                right_everywhere = True
                for lefts in product(range(modulus), repeat=left):
                    for rights in product(range(modulus), repeat=right):
                        goal = [sum(wished[i][j][k] * lefts[i] * rights[j] for i in range(left) for j in range(right))
                                % modulus for k in range(result)]
                        right_everywhere = right_everywhere and scheme.run(ring, lefts, rights) == goal
                self.assertIs(right_everywhere, number % modulus == 0)

    def test_wrong_tables(self):
        scheme = sample()
        self.assertEqual(scheme.right_ones(table=WISHED), 0)
        for value in ANY_VALUES + [
            WISHED[0], WISHED + WISHED[:1], [WISHED[0], WISHED[1] + [[0, 0, 0]]], [WISHED[0], [[0, 1, 0], [0, 1]]],
            [WISHED[0], [[0, 1, 0], [0, 0, True]]], [WISHED[0], [[0, 1, 0], [0, 0, None]]],
            [WISHED[0], [[0, 1, 0], "abc"]],
            [WISHED[0], None], [WISHED[0], "ab"], [WISHED[0], [[0, 1, 0], [0, 0, [1]]]], [[[1] * 3] * 2],
            [[[1] * 2] * 2] * 2, [[[1] * 3] * 3] * 2,
        ]:
            fails(self, InvalidTable, {"rule": "form"}, scheme.right_ones, value)


def unrolled(steps, procedures, names, result):
    """The executed steps of steps, with targets that are numbers, appended to result; names are numbers already."""
    for step in steps:
        if step[0] == "call":
            body = procedures[step[2]]
            inner = {parameter: names[name] for parameter, name in zip(body[1], step[3])}
            unrolled(body[2], procedures, inner, result)
            names[step[1]] = inner[body[3]]
        elif step[0] == "share":
            names[step[1]] = len(result)
            result.append((step[0], Fraction(step[2], step[3]), names[step[4]]))
        elif step[0] == "constant":
            names[step[1]] = len(result)
            result.append((step[0], Fraction(step[2], step[3])))
        else:
            names[step[1]] = len(result)
            result.append((step[0], names[step[2]], names[step[3]]))


def scheme_by_hand(program, left):
    """The sizes and products of the scheme of a program, or the index of the step that is not straight, or None."""
    steps = []
    # Inputs have numbers below zero, so that the executed steps have their indexes.
    names = {name: at - len(program.inputs) for at, name in enumerate(program.inputs)}
    unrolled(program.steps, {body[0]: body for body in program.procedures}, names, steps)
    sums = {at - len(program.inputs): {at - len(program.inputs): Fraction(1)} for at in range(len(program.inputs))}
    lefts = [at - len(program.inputs) for at in range(left)]
    rights = [at - len(program.inputs) for at in range(left, len(program.inputs))]
    found = []
    for at, step in enumerate(steps):
        if step[0] == "multiply":
            for place, allowed in ((1, lefts), (2, rights)):
                total = sums[step[place]]
                if any(value and (mark not in allowed or value.denominator > 1) for mark, value in total.items()):
                    return at
            found.append(at)
            sums[at] = {at: Fraction(1)}
        elif step[0] == "constant":
            sums[at] = {"one": step[1]}
        elif step[0] == "share":
            sums[at] = {mark: value * step[1] for mark, value in sums[step[2]].items()}
        else:
            sign = 1 if step[0] == "add" else -1
            one, other = sums[step[1]], sums[step[2]]
            sums[at] = {mark: one.get(mark, 0) + sign * other.get(mark, 0) for mark in set(one) | set(other)}
    outputs = [sums[names[name]] for name in program.outputs]
    for total in outputs:
        if any(value and (mark not in found or value.denominator > 1) for mark, value in total.items()):
            return None
    products = [
        ([int(sums[steps[at][1]].get(mark, 0)) for mark in lefts],
         [int(sums[steps[at][2]].get(mark, 0)) for mark in rights],
         [int(total.get(at, 0)) for total in outputs])
        for at in found
    ]
    return Scheme((left, len(rights), len(outputs)), products)


class StraightDrawer:
    """Draws programs that often are straight: they keep sums of left inputs, of right inputs and of products apart."""

    def __init__(self, seed):
        self.random = Random(seed)
        self.procedures = [
            ("twice", ["x"], [("add", "y", "x", "x")], "y"),
            ("times", ["x", "y"], [("call", "z", "twice", ("x",)), ("multiply", "w", "z", "y")], "w"),
            ("halve", ["x"], [("share", "y", 1, 2, "x"), ("share", "z", 4, 1, "y")], "z"),
        ]

    def step(self, target, groups):
        random = self.random
        kind = random.choice(["add", "subtract", "share", "twice", "halve", "multiply", "multiply", "times"])
        if kind in ("multiply", "times"):
            given = (random.choice(groups[0]), random.choice(groups[1]))
            groups[2].append(target)
            return ("call", target, kind, given) if kind == "times" else (kind, target, *given)
        group = random.choice([group for group in groups if group])
        one, other = random.choice(group), random.choice(group)
        group.append(target)
        if kind in ("add", "subtract"):
            return (kind, target, one, other)
        if kind == "share":
            return (kind, target, random.randint(-3, 3), random.choice([1, 2]), one)
        return ("call", target, kind, (one,))

    def program(self, left, right, count):
        inputs = list("abcd"[: left + right])
        groups = [inputs[:left], inputs[left:], []]
        steps = [self.step("s" + chr(ord("a") + at), groups) for at in range(count)]
        outputs = [self.random.choice(groups[2] or inputs) for _ in range(self.random.randint(1, 4))]
        return Program(inputs, steps, outputs, procedures=self.procedures)


class OfTest(unittest.TestCase):
    def check(self, program, left):
        """Compares the scheme of a program with what is worked out by hand; whether it has one."""
        expected = scheme_by_hand(program, left)
        if not isinstance(expected, Scheme):
            fails(self, NotStraight, {"at": expected}, Scheme.of, program, left)
            return expected
        scheme = Scheme.of(program, left)
        self.assertEqual(scheme, expected)
        self.assertEqual(len(scheme), program.executed("multiply"))
        table = scheme.table()
        for k, form in enumerate(program.forms()):
            terms = [((program.inputs[i], program.inputs[left + j]), table[i][j][k], 1)
                     for i in range(scheme.sizes[0]) for j in range(scheme.sizes[1])]
            self.assertEqual(Form(terms), form)
        return True

    def test_drawn_straight_programs(self):
        made = StraightDrawer(7)
        found = []
        for _ in range(500):
            left = made.random.randint(1, 3)
            right = made.random.randint(1, 4 - left)
            found.append(self.check(made.program(left, right, made.random.randint(0, 12)), left))
        self.assertGreater(found.count(True), 100)
        self.assertGreater(found.count(None), 30)
        self.assertGreater(len([at for at in found if type(at) is int]), 12)

    def test_drawn_programs(self):
        made = Drawer(8)
        found = []
        for _ in range(500):
            names = ["a", "b", "c", "d"][: made.random.randint(2, 4)]
            program = made.program(names, divisors=(1, 1, 2))
            found.append(self.check(program, made.random.randint(1, len(names) - 1)))
        self.assertGreater(found.count(None), 50)
        self.assertGreater(len([at for at in found if type(at) is int]), 50)

    def of(self, steps, outputs, inputs=("a", "b"), left=1, procedures=()):
        return Scheme.of(Program(list(inputs), steps, outputs, procedures=procedures), left)

    def test_by_hand(self):
        steps = [("multiply", "p", "a", "c"), ("add", "s", "a", "b"), ("subtract", "t", "c", "d"),
                 ("multiply", "q", "s", "t"), ("share", "u", -3, 1, "q"), ("add", "v", "u", "p")]
        self.assertEqual(self.of(steps, ["v", "q"], "abcd", 2),
                         Scheme((2, 2, 2), [([1, 0], [1, 0], [1, 0]), ([1, 1], [1, -1], [-3, 1])]))
        self.assertEqual(Scheme.of(left=1, program=Program(["a", "b", "c"], [("multiply", "p", "a", "c")], ["p", "p"])),
                         Scheme((1, 2, 2), [([1], [0, 1], [1, 1])]))

    def test_shares_that_become_whole(self):
        steps = [("share", "h", 1, 2, "a"), ("add", "s", "h", "h"), ("multiply", "p", "s", "b"),
                 ("share", "t", 2, 6, "p"), ("share", "u", 9, 3, "t")]
        self.assertEqual(self.of(steps, ["u"]), Scheme((1, 1, 1), [([1], [1], [1])]))
        fails(self, NotStraight, {"at": None}, self.of, steps, ["t"])
        fails(self, NotStraight, {"at": None}, self.of, steps, ["u", "t"])
        fails(self, NotStraight, {"at": 3}, self.of, steps[:3] + [("multiply", "x", "h", "b")], ["p"])

    def test_constants_that_cancel(self):
        steps = [("constant", "o", 5, 2), ("add", "s", "a", "o"), ("subtract", "t", "s", "o"),
                 ("multiply", "p", "t", "b"), ("add", "q", "p", "o"), ("subtract", "r", "q", "o")]
        self.assertEqual(self.of(steps, ["r"]), Scheme((1, 1, 1), [([1], [1], [1])]))
        fails(self, NotStraight, {"at": None}, self.of, steps, ["q"])
        fails(self, NotStraight, {"at": 2}, self.of, steps[:2] + [("multiply", "p", "s", "b")], ["p"])
        fails(self, NotStraight, {"at": 1}, self.of, steps[:1] + [("multiply", "p", "a", "o")], ["p"])

    def test_factors_that_are_zero(self):
        steps = [("subtract", "z", "a", "a"), ("share", "y", 0, 3, "b"), ("constant", "x", 0, 1),
                 ("multiply", "p", "z", "b"), ("multiply", "q", "a", "y"), ("multiply", "r", "x", "z"),
                 ("multiply", "s", "y", "x")]
        self.assertEqual(self.of(steps, ["p", "q", "r", "s"]).products, (
            ((0,), (1,), (1, 0, 0, 0)), ((1,), (0,), (0, 1, 0, 0)), ((0,), (0,), (0, 0, 1, 0)),
            ((0,), (0,), (0, 0, 0, 1)),
        ))
        self.assertEqual(self.of(steps[:3], ["z", "y", "x"]), Scheme((1, 1, 3), []))

    def test_each_step_makes_a_product(self):
        steps = [("multiply", "p", "a", "b"), ("multiply", "q", "a", "b"), ("subtract", "z", "p", "q"),
                 ("subtract", "n", "p", "p")]
        self.assertEqual(self.of(steps, ["z", "n"]).products, (((1,), (1,), (1, 0)), ((1,), (1,), (-1, 0))))
        fails(self, NotStraight, {"at": 4}, self.of, steps + [("multiply", "r", "z", "b")], ["p"])
        self.assertEqual(self.of(steps + [("multiply", "r", "n", "b")], ["r"]).products[2], ((0,), (1,), (1,)))

    def test_unused_products(self):
        steps = [("multiply", "p", "a", "b"), ("multiply", "q", "a", "b")]
        self.assertEqual(self.of(steps, ["q"]).products, (((1,), (1,), (0,)), ((1,), (1,), (1,))))
        fails(self, NotStraight, {"at": 2}, self.of, steps + [("multiply", "r", "b", "a")], ["q"])

    def test_not_straight(self):
        for steps, at in (
            ([("multiply", "p", "b", "a")], 0), ([("multiply", "p", "a", "a")], 0), ([("multiply", "p", "b", "b")], 0),
            ([("add", "s", "a", "b"), ("multiply", "p", "s", "b")], 1),
            ([("add", "s", "a", "b"), ("multiply", "p", "a", "s"), ("multiply", "q", "b", "b")], 1),
            ([("constant", "c", 2, 1), ("multiply", "p", "a", "b"), ("multiply", "q", "c", "p")], 2),
        ):
            fails(self, NotStraight, {"at": at}, self.of, steps, ["a"])
        for outputs in (["a"], ["p", "b"], ["c"], ["p", "s"]):
            steps = [("multiply", "p", "a", "b"), ("constant", "c", 2, 1), ("add", "s", "p", "c")]
            fails(self, NotStraight, {"at": None}, self.of, steps, outputs)

    def test_index_among_the_executed_steps(self):
        body = ("f", ["x", "y"], [("add", "z", "x", "x"), ("multiply", "w", "z", "y"), ("add", "v", "w", "w")], "v")
        steps = [("call", "p", "f", ("a", "b")), ("call", "q", "f", ("b", "a"))]
        fails(self, NotStraight, {"at": 4}, self.of, steps, ["p"], procedures=[body])
        self.assertEqual(self.of(steps[:1], ["p"], procedures=[body]), Scheme((1, 1, 1), [([2], [1], [2])]))

    def test_wrong_numbers_of_left_inputs(self):
        steps = [("multiply", "p", "b", "b")]
        for value in ANY_VALUES:
            for inputs in ("ab", "abc", "abcd"):
                if type(value) is not int or not 1 <= value < len(inputs):
                    fails(self, InvalidNumber, {"given": value}, self.of, steps, ["p"], inputs, value)
            fails(self, InvalidNumber, {"given": value}, self.of, [], ["a"], "a", value)
        for left in (1, 2, 3):
            fails(self, NotStraight, {"at": 0}, self.of, steps, ["p"], "abcd", left)

    def test_long_programs(self):
        steps = [("multiply", "p", "a", "b")]
        for at in range(238):
            steps.append(("share", chr(ord("a") + at // 26) + chr(ord("a") + at % 26) + "x", -HUGE + 1, 1,
                          steps[-1][1]))
        steps.append(("add", "last", steps[-1][1], "p"))
        scheme = self.of(steps, ["last"])
        self.assertEqual(scheme.products, (((1,), (1,), ((-HUGE + 1) ** 238 + 1,)),))


if __name__ == "__main__":
    unittest.main()
