"""The table of a form, its divisors, the least number of products, and papers that tell such products."""

import unittest
from itertools import combinations, permutations, product
from math import gcd, prod

from drawn import Drawer
from numbertypes.errors import InvalidNumber, NotWhole, TooMany, WrongCount
from numbertypes.fits import realm_of
from numbertypes.forms import Form
from numbertypes.normal import alike
from numbertypes.products import Factored, divisors, least_products, program_of
from numbertypes.realms import Realm
from numbertypes.wishes import Wish
from samples import ANY_VALUES, fails, same
from test_forms import names_of_methods

HUGE = 10**30
A, B = Form.word("a"), Form.word("b")
MODULI = [0, 2, 3, 4, 6, 8, 12, 30, 210, 10**12, 2**39, 200560490130, 999999999989]


def sign_of(order):
    return (-1) ** sum(1 for i, j in combinations(range(len(order)), 2) if order[i] > order[j])


def minor(table, rows, columns):
    """The minor of some rows and columns, by all orders of the columns."""
    total = 0
    for order in permutations(range(len(rows))):
        total += sign_of(order) * prod(table[rows[k]][columns[at]] for k, at in enumerate(order))
    return total


def table_by_hand(form):
    return [[form.share_of(one, other)[0] for other in form.names()] for one in form.names()]


def common_minors(form):
    """The common divisors of the minors with 1, 2 .. rows."""
    table = table_by_hand(form)
    found = []
    for size in range(1, len(table) + 1):
        choices = list(combinations(range(len(table)), size))
        found.append(gcd(*[minor(table, rows, columns) for rows in choices for columns in choices]))
    return found


def form_with(table, rest="0"):
    names = "abcd"[: len(table)]
    terms = [((names[i], names[j]), entry, 1) for i, row in enumerate(table) for j, entry in enumerate(row)]
    return Form(terms) + Form.read(rest)


def drawn_table(random, names, great, rank):
    """A table of this rank at most, whose divisors often are no ones."""
    left = [[random.randint(-great, great) for _ in range(rank)] for _ in range(names)]
    right = [[random.choice([1, 1, 2, 3, 4, 6]) * random.randint(-great, great) for _ in range(names)]
             for _ in range(rank)]
    return [[sum(left[i][k] * right[k][j] for k in range(rank)) for j in range(names)] for i in range(names)]


def drawn_forms(seed, count):
    made = Drawer(seed)
    for _ in range(count):
        names = made.random.randint(0, 4)
        great = made.random.choice([1, 2, 3, 6, 10**6, HUGE])
        table = drawn_table(made.random, names, great, made.random.randint(0, names))
        yield form_with(table) + made.form("abcd"[: names] or "a", most=3)


def total_of(paper):
    total = paper.rest
    for one, other in paper.pairs:
        total = total + one * other
    return total


def free(modulus):
    return Realm(ones=modulus, swaps=modulus, squares=modulus)


class DivisorsTest(unittest.TestCase):
    def test_examples(self):
        for text, expected in (
            ("0", []), ("7", []), ("a", [0]), ("3*a + 1", [0]), ("a*a", [1]), ("-6*a*a", [6]), ("a*b", [1, 0]),
            ("a*b + b*a", [1, 1]), ("2*a*b + 3*b*a", [1, 6]), ("2*a*a + 2*a*b + 2*b*a + 3*b*b", [1, 2]),
            ("4*a*a + 6*b*b", [2, 12]), ("4*a*a + c", [4, 0]), ("a*a + 2*a*b + b*a + 2*b*b", [1, 0]),
            ("2*a*a + 6*b*b + 4*c*c + 5*d", [2, 2, 12, 0]), ("6*a*b + 10*b*c + 15*c*a", [1, 30, 30]),
            ("2*a*b + 2*c*d", [2, 2, 0, 0]), ("b*b - b", [1]),
        ):
            self.assertTrue(same(divisors(Form.read(text)), expected), text)

    def test_against_all_minors(self):
        seen = set()
        for form in drawn_forms(1, 500):
            found = divisors(form)
            self.assertEqual(len(found), len(form.names()))
            self.assertTrue(all(type(part) is int and part >= 0 for part in found))
            self.assertEqual([prod(found[: k + 1]) for k in range(len(found))], common_minors(form), form)
            for one, other in zip(found, found[1:]):
                self.assertTrue(other == 0 if one == 0 else other % one == 0)
            seen.add((len(found), found.count(0), len(found) > 0 and found[0] > 1))
        self.assertGreater(len(seen), 14)

    def test_names_of_degree_one_count(self):
        self.assertEqual(divisors(Form.read("a*c + b")), [1, 0, 0])
        self.assertEqual(divisors(Form.read("a + b + c + d")), [0, 0, 0, 0])

    def test_long_numbers(self):
        long = Form([(("a", "b"), 7**5000, 1), (("b", "a"), 7**4000, 1)])
        self.assertEqual(divisors(long), [7**4000, 7**5000])
        self.assertEqual(divisors(form=long - Form([(("b", "a"), 7**4000, 1)])), [7**5000, 0])

    def test_errors(self):
        many = Form.read("a*b + c*d + e")
        fails(self, NotWhole, {"at": 0}, divisors, Form.read("a*b + 1/2*c"))
        fails(self, NotWhole, {"at": 0}, divisors, Form.read("1/2"))
        fails(self, NotWhole, {"at": 0}, divisors, many + Form.read("1/3*a*a"))
        fails(self, TooMany, {"most": 4}, divisors, many)
        fails(self, NotWhole, {"at": 0}, least_products, many + Form.read("1/3*a*a"), modulus=6)
        fails(self, TooMany, {"most": 4}, least_products, many, modulus=10**12)

    def test_a_new_list(self):
        form = A * B
        divisors(form).append(9)
        self.assertEqual(divisors(form), [1, 0])


class LeastProductsTest(unittest.TestCase):
    def check(self, form, modulus):
        paper = least_products(form, modulus=modulus)
        count = len([part for part in divisors(form) if (part != 0 if modulus == 0 else part % modulus != 0)])
        self.assertIs(type(paper), Factored)
        self.assertEqual((len(paper), len(paper.pairs)), (count, count), (form, modulus))
        self.assertIs(paper.holds(), True, (form, modulus))
        self.assertEqual((paper.form, paper.modulus), (form, modulus))
        self.assertIs(type(paper.pairs), tuple)
        self.assertIs(alike(total_of(paper), form, free(modulus)), True)
        for part in [part for pair in paper.pairs for part in pair] + [paper.rest]:
            self.assertLessEqual(part.degree, 1)
            self.assertEqual(part.divisor, 1)
            self.assertLessEqual(set(part.names()), set(form.names()))
        if modulus == 0:
            self.assertEqual(total_of(paper), form)
        return count

    def test_examples(self):
        for text, modulus, count in (
            ("0", 0, 0), ("a + 3", 0, 0), ("a*b", 0, 1), ("2*a*b", 2, 0), ("2*a*b + 3*b*a", 0, 2),
            ("2*a*b + 3*b*a", 6, 1), ("2*a*b + 3*b*a", 2, 1), ("2*a*b + 3*b*a", 4, 2), ("2*a*b + 3*b*a", 3, 1),
            ("2*a*a + 2*a*b + 2*b*a + 3*b*b", 0, 2), ("2*a*a + 2*a*b + 2*b*a + 3*b*b", 2, 1),
            ("6*a*b + 10*b*c + 15*c*a", 0, 3), ("6*a*b + 10*b*c + 15*c*a", 30, 1), ("a*a + b*b + c*c + d*d", 0, 4),
            ("a*a + b*b + c*c + d*d", 10**12, 4), ("6*a*b + 10*b*c + 15*c*a", 7, 3),
        ):
            self.assertEqual(self.check(Form.read(text), modulus), count, (text, modulus))

    def test_drawn_forms(self):
        made = Drawer(2)
        counts = set()
        for form in drawn_forms(3, 150):
            for modulus in MODULI + [made.random.randint(2, 10**12), made.random.randint(2, 60)]:
                counts.add(self.check(form, modulus))
        self.assertEqual(counts, {0, 1, 2, 3, 4})

    def test_no_fewer_products(self):
        for modulus in (2, 3, 4):
            rows = list(product(range(modulus), repeat=2))
            ones = {tuple(x * y % modulus for x in u for y in v) for u in rows for v in rows}
            for table in product(range(modulus), repeat=4):
                form = form_with([table[:2], table[2:]])
                if len(form.names()) == 2:
                    count = self.check(form, modulus)
                    self.assertEqual(count == 1, any(table) and table in ones)
                    self.assertEqual(count == 0, not any(table))

    def test_default_modulus(self):
        self.assertEqual(least_products(A * B).modulus, 0)
        self.assertEqual(least_products(form=A * B, modulus=2).modulus, 2)
        with self.assertRaises(TypeError):
            least_products(A, 2)

    def test_wrong_moduli(self):
        wrong = Form.read("1/2*a + b + c + d + e")
        for value in ANY_VALUES + [10**12 + 1, -2]:
            if not same(value, 0) and not (type(value) is int and 2 <= value <= 10**12):
                fails(self, InvalidNumber, {"given": value}, least_products, A, modulus=value)
                fails(self, InvalidNumber, {"given": value}, least_products, wrong, modulus=value)

    def test_long_numbers(self):
        line = Form([(("a",), 7**3000, 1), (("b",), 5**3000 + 1, 1), (("c",), 6**2000, 1)])
        for modulus in (0, 7, 10**12):
            self.check(line * line + A * B.scaled(3**500), modulus)


class FactoredTest(unittest.TestCase):
    def setUp(self):
        self.form = Form.read("2*a*b + 3*b*a + a - 4")
        self.rest = Form.read("a - 4")
        self.pairs = [(A.scaled(2), B), (B, A.scaled(3))]

    def holds(self, pairs, rest=None, modulus=0, form=None):
        form, rest = self.form if form is None else form, self.rest if rest is None else rest
        result = Factored(form, modulus, pairs, rest).holds()
        self.assertIs(type(result), bool)
        return result

    def test_right_papers(self):
        self.assertTrue(self.holds(self.pairs))
        self.assertTrue(self.holds(tuple(self.pairs)))
        self.assertTrue(self.holds([(A, B.scaled(2)), (B.scaled(-3), -A)]))
        self.assertTrue(self.holds([(A.scaled(2) + Form.read("1"), B), (B, A.scaled(3))], self.rest - B))
        self.assertTrue(self.holds([(A.scaled(4) + B.scaled(3), A.scaled(3) + B.scaled(2))], modulus=6))
        self.assertTrue(self.holds([(A.scaled(4) + B.scaled(3), A.scaled(3) + B.scaled(2))], self.rest + B.scaled(6),
                                   modulus=6))
        self.assertTrue(self.holds([(A, B)], Form.read("0"), form=A * B))
        self.assertTrue(self.holds([], Form.read("3"), form=Form.read("3")))
        self.assertTrue(self.holds((), Form.read("6"), modulus=3, form=Form.read("3*a*b")))
        self.assertTrue(Factored(modulus=0, rest=self.rest, form=self.form, pairs=self.pairs).holds())

    def test_wrong_sums(self):
        self.assertFalse(self.holds(self.pairs, self.rest + A))
        self.assertFalse(self.holds([(A, B.scaled(2)), (A, B.scaled(3))]))
        self.assertFalse(self.holds([(B.scaled(2), A), (A, B.scaled(3))]))
        self.assertFalse(self.holds([(A, B)], Form.read("0"), form=B * A))
        self.assertFalse(self.holds([(A.scaled(4) + B.scaled(3), A.scaled(3) + B.scaled(2))], modulus=5))
        self.assertFalse(self.holds([(A.scaled(2), B)], modulus=6))

    def test_wrong_counts(self):
        zero = Form()
        self.assertFalse(self.holds(self.pairs + [(zero, zero)]))
        self.assertFalse(self.holds([(A.scaled(2), B), (B, A), (B, A.scaled(2))]))
        self.assertFalse(self.holds(self.pairs, modulus=6))
        self.assertFalse(self.holds(self.pairs, modulus=2))
        self.assertTrue(self.holds(self.pairs, modulus=4))
        self.assertFalse(self.holds([(zero, zero)], form=self.rest))

    def test_wrong_parts(self):
        half, square, c = Form.read("1/2*a"), Form.read("a*a"), Form.word("c")
        self.assertFalse(self.holds([(half, B.scaled(4)), (B, A.scaled(3))]))
        self.assertFalse(self.holds([(A.scaled(2), B), (B.scaled(6), half)]))
        self.assertFalse(self.holds([(square, Form.read("1")), self.pairs[0]],
                                    form=square + A * B.scaled(2) + self.rest))
        self.assertFalse(self.holds([(A + c, B)], -c, form=A * B))
        self.assertFalse(self.holds([(A, B + c.scaled(0))], c, form=A * B))
        self.assertFalse(self.holds([(A, B)], half, modulus=3, form=A * B + A.scaled(2)))
        self.assertFalse(self.holds([], square, form=square))
        self.assertFalse(self.holds([], square.scaled(2), modulus=2, form=square.scaled(2)))
        self.assertFalse(self.holds([(A + c.scaled(2), B)], Form(), modulus=2, form=A * B))
        self.assertFalse(self.holds([(A, B + c.scaled(3))], Form(), modulus=3, form=A * B))

    def test_wrong_kinds(self):
        for pairs in (
            [list(self.pairs[0]), self.pairs[1]], [self.pairs[0], (B,)], [self.pairs[0], (B, A.scaled(3), A)],
            [self.pairs[0], B], [self.pairs[0], None], [self.pairs[0], ("b", A)], [self.pairs[0], (B, 3)],
            self.pairs[0], None, A, "ab", 2, True,
        ):
            self.assertFalse(self.holds(pairs), pairs)
        for value in ANY_VALUES:
            self.assertFalse(self.holds(value))
            self.assertFalse(self.holds([self.pairs[0], value]))
            self.assertFalse(self.holds([value, value]))
            self.assertFalse(self.holds([self.pairs[0], (B, value)]))
            self.assertFalse(Factored(self.form, 0, self.pairs, value).holds())
            self.assertFalse(Factored(self.form, 0, value, value).holds())

    def test_lengths(self):
        for value in ANY_VALUES:
            self.assertEqual(len(Factored(A, 0, value, A)), len(value) if isinstance(value, (list, tuple)) else 0)
        self.assertEqual(len(Factored(self.form, 0, self.pairs, self.rest)), 2)

    def test_properties(self):
        for value in ANY_VALUES:
            paper = Factored(A, 5, value, value)
            self.assertTrue(same(paper.pairs, tuple(value) if isinstance(value, list) else value))
            self.assertTrue(same(paper.rest, value))
        pairs = [[A, [B]], (B, A)]
        paper = Factored(self.form, 7, pairs, self.rest)
        pairs[0][1].append(3)
        pairs.append(1)
        self.assertEqual(paper.pairs, ([A, [B]], (B, A)))
        paper.pairs[0].append(1)
        self.assertEqual(paper.pairs, ([A, [B]], (B, A)))
        self.assertEqual((paper.form, paper.modulus, paper.rest), (self.form, 7, self.rest))
        rest = [1, [2]]
        paper = Factored(self.form, 7, pairs, rest)
        rest[1].append(3)
        paper.rest[1].append(4)
        self.assertEqual(paper.rest, [1, [2]])
        for name in ("form", "modulus", "pairs", "rest"):
            with self.assertRaises(AttributeError):
                setattr(paper, name, 1)
        self.assertLessEqual({"form", "modulus", "pairs", "rest", "holds", "__init__", "__len__"},
                             names_of_methods(Factored))


class ProgramOfTest(unittest.TestCase):
    def check(self, paper):
        self.assertTrue(paper.holds())
        program = program_of(paper)
        self.assertEqual(program.inputs, tuple(paper.form.names()))
        self.assertEqual(program.forms(), [total_of(paper)])
        self.assertEqual(program.executed("multiply"), len(paper))
        self.assertEqual(program.divisor, 1)
        if paper.modulus != 0:
            self.assertTrue(free(paper.modulus).within(realm_of(program, Wish(paper.form))))
        return program

    def test_drawn_forms(self):
        for form in drawn_forms(4, 120):
            for modulus in (0, 2, 6, 10**12):
                paper = least_products(form, modulus=modulus)
                if form.names():
                    self.check(paper)
                else:
                    fails(self, WrongCount, {"given": 0}, program_of, paper)

    def test_by_hand(self):
        for text, pairs, rest in (
            ("a", [], "a"), ("a", [], "1*a"), ("0*a + 2*b", [], "2*b"), ("a*b", [("a", "b")], "0"),
            ("a*b + a + 2*b + 2", [("a + 2", "b + 1")], "0"), ("a*b", [("-a - 1", "-b")], "-b"),
            ("a*a - b*b", [("a", "a"), ("b", "-b")], "0"), ("3*a + 5", [], "3*a + 5"),
        ):
            pairs = [(Form.read(one), Form.read(other)) for one, other in pairs]
            self.check(Factored(Form.read(text), 0, pairs, Form.read(rest)))
        self.check(Factored(Form.read("3*a*b"), 3, [], Form.read("0")))
        self.check(Factored(Form.read("3*a*b"), 3, [], Form.read("3*b + 6")))

    def test_greatest_forms(self):
        names = ["w", "x", "y", "z"]
        line = Form([((name,), HUGE + at, 1) for at, name in enumerate(names)] + [((), -HUGE, 1)])
        units = [Form.word(name) for name in names]
        pairs = [(unit.scaled(7) + line, unit + line.scaled(3)) for unit in units]
        total = line
        for one, other in pairs:
            total = total + one * other
        self.check(Factored(total, 0, pairs, line))

    def test_no_names(self):
        for text in ("0", "5"):
            fails(self, WrongCount, {"given": 0}, program_of, least_products(Form.read(text)))
        self.assertEqual(len(program_of(factored=least_products(A))), 0)


if __name__ == "__main__":
    unittest.main()
