"""Benches of sums: what they are, their tables, their adds and values, and benches turned around."""

import unittest
from random import Random

from numbertypes.builds import Matrices
from numbertypes.errors import InvalidHead, InvalidLine, InvalidThing, TooMany, Unused, WrongCount
from numbertypes.rings import Rests, Whole
from numbertypes.sums import Sums
from samples import ANY_VALUES, all_samples, fails, same
from test_forms import names_of_methods

HUGE = 10**30
LETTERS = "abcdefghijklmnopqrstuvwxyz"
WRONG_NAMES = [value for value in ANY_VALUES if value != "a"] + ["abcdefg", "A", "a b", "out", "proc", "give"]


def sample():
    return Sums(["a", "b"], [("s", [(2, "a"), (-3, "b")]), ("t", [(1, "s"), (5, "a"), (-1, "b")])], ["t", "s", "t"])


def drawn_bench(random, most_inputs=8, most_lines=12, great=4):
    """A bench in which everything is used."""
    inputs = random.sample(LETTERS, random.randint(1, most_inputs))
    known, lines = list(inputs), []
    for at in range(random.randint(0, most_lines)):
        chosen = random.sample(known, random.randint(1, min(len(known), 6)))
        factors = [random.choice([-1, 1]) * random.randint(1, great) for _ in chosen]
        lines.append((LETTERS[at] * 2, list(zip(factors, chosen))))
        known.append(lines[-1][0])
    used = {name for _, parts in lines for _, name in parts}
    unused = [name for name in known if name not in used]
    if len(unused) > 8:
        lines.append(("last", [(1, name) for name in unused]))
        unused = ["last"]
    outputs = unused + [random.choice(known) for _ in range(random.randint(0, 8 - len(unused)))]
    random.shuffle(outputs)
    return Sums(inputs, lines, outputs)


def table_by_hand(bench):
    """The table by the values of the bench for integers, where one input is one and all others are zero."""
    size = len(bench.inputs)
    columns = [bench.values(Whole(), *[(int(at == k), 1) for at in range(size)]) for k in range(size)]
    return [[column[k][0] for column in columns] for k in range(len(bench.outputs))]


def exchanged(table):
    return [list(column) for column in zip(*table)]


class BenchTest(unittest.TestCase):
    def test_parts(self):
        bench = sample()
        self.assertTrue(same(bench.inputs, ("a", "b")))
        self.assertTrue(same(bench.lines, (("s", ((2, "a"), (-3, "b"))), ("t", ((1, "s"), (5, "a"), (-1, "b"))))))
        self.assertTrue(same(bench.outputs, ("t", "s", "t")))
        self.assertEqual((bench.adds, repr(bench)), (3, "Sums(3 adds)"))
        self.assertTrue(same(bench.table(), [[7, -4], [2, -3], [7, -4]]))
        for name in ("inputs", "lines", "outputs", "adds"):
            with self.assertRaises(AttributeError):
                setattr(bench, name, 1)
        self.assertLessEqual(
            {"inputs", "lines", "outputs", "adds", "table", "values", "turned", "__init__", "__eq__", "__repr__"},
            names_of_methods(Sums),
        )

    def test_small_benches(self):
        bench = Sums(["a"], [], ["a"])
        self.assertEqual((bench.adds, bench.table(), bench.lines), (0, [[1]], ()))
        bench = Sums(("a", "b"), (), ("b", "a", "b"))
        self.assertEqual((bench.adds, bench.table()), (0, [[0, 1], [1, 0], [0, 1]]))
        bench = Sums(outputs=["x"], lines=[("x", ((-HUGE, "a"),))], inputs=["a"])
        self.assertEqual((bench.adds, bench.table(), repr(bench)), (0, [[-HUGE]], "Sums(0 adds)"))
        self.assertEqual(repr(Sums(["a", "b"], [("c", [(1, "a"), (1, "b")])], ["c"])), "Sums(1 adds)")

    def test_cancelling(self):
        lines = [("s", [(1, "a"), (1, "b")]), ("t", [(1, "s"), (-1, "a"), (-1, "b")])]
        self.assertEqual(Sums(["a", "b"], lines, ["t"]).table(), [[0, 0]])

    def test_copies(self):
        inputs, parts, outputs = ["a", "b"], [(1, "a"), (2, "b")], ["s"]
        lines = [("s", parts)]
        bench = Sums(inputs, lines, outputs)
        inputs.append("c")
        parts.append((3, "c"))
        lines.append(("u", [(1, "a")]))
        outputs.append("a")
        self.assertEqual(bench, Sums(["a", "b"], [("s", [(1, "a"), (2, "b")])], ["s"]))
        bench.table()[0][0] = 9
        bench.table().append([])
        self.assertEqual(bench.table(), [[1, 2]])
        rows = sample().table()
        rows[0].append(9)
        self.assertEqual(rows[2], [7, -4])
        self.assertEqual((parts, lines[0]), ([(1, "a"), (2, "b"), (3, "c")], ("s", parts)))

    def test_equality(self):
        bench = sample()
        self.assertIs(bench == sample(), True)
        self.assertIs(bench != sample(), False)
        for other in (
            Sums(["b", "a"], bench.lines, bench.outputs), Sums(["a", "b"], bench.lines, ["t", "t", "s"]),
            Sums(["a", "b"], bench.lines, ["t", "s"]),
            Sums(["a", "b"], [("s", [(-3, "b"), (2, "a")]), bench.lines[1]], bench.outputs),
            Sums(["a", "b"], [("s", [(2, "a"), (3, "b")]), bench.lines[1]], bench.outputs),
        ):
            self.assertIs(bench == other, False)
        for value in ANY_VALUES + [(bench.inputs, bench.lines, bench.outputs), repr(bench)]:
            self.assertIs(bench == value, False)

    def test_greatest_bench(self):
        inputs = list("abcdefgh")
        lines = []
        for at in range(40):
            lines.append(("x" + LETTERS[at % 26] * (1 + at // 26), [(1, name) for name in inputs]
                          + [(2, line[0]) for line in lines]))
        bench = Sums(inputs, lines, [lines[-1][0]] * 8)
        self.assertEqual(bench.adds, sum(7 + at for at in range(40)))
        self.assertEqual(bench.table(), [[3**39] * 8] * 8)
        self.assertEqual(len(lines[-1][1]), 47)


class ErrorsTest(unittest.TestCase):
    def test_inputs(self):
        rest = ([("s", [(1, "q")])] * 41, ["x"])
        for value in ANY_VALUES + ["abc", ["a", "a"], ["a", "b", "a"], list("abcdefghi"), ("a", "in")]:
            if not isinstance(value, (list, tuple)) or not value:
                continue
            fails(self, InvalidHead, {"part": "in"}, Sums, value, *rest)
        fails(self, InvalidHead, {"part": "in"}, Sums, [], [], ["a"])
        for name in WRONG_NAMES:
            fails(self, InvalidHead, {"part": "in"}, Sums, ["a", name], [5], 7)
        self.assertEqual(len(Sums(list("abcdefgh"), [("s", [(1, name) for name in "abcdefgh"])], ["s"]).inputs), 8)

    def test_lines(self):
        right = ("s", [(1, "a"), (2, "b")])
        wrong = [
            ["s", [(1, "a")]], ("s",), ("s", [(1, "a")], 3), ("a", [(1, "b")]), ("S", [(1, "a")]), ("in", [(1, "a")]),
            ("u", []), ("u", ()), ("u", "ab"), ("u", None), ("u", (1, "a")), ("u", [(0, "a")]), ("u", [(True, "a")]),
            ("u", [("1", "a")]), ("u", [[1, "a"]]), ("u", [(1, "a", 2)]), ("u", [(1,)]), ("u", [(1, "c")]),
            ("u", [(1, "u")]), ("u", [(1, "a"), (2, "a")]), ("u", [(1, "a"), (2, "b"), (-1, "a")]), ("u", [(1, "v")]),
            ("u", [(1, "a"), None]), ("u", [(1, ["a"])]), ("u", [(1, "")]), ("u", [(1, "a"), (0, "b")]),
        ] + ANY_VALUES
        for value in wrong:
            fails(self, InvalidLine, {"at": 0}, Sums, ["a", "b"], [value, value], 7)
            fails(self, InvalidLine, {"at": 1}, Sums, ["a", "b"], [right, value, ("v", [(1, "a")])], ["a"])
        for value in ANY_VALUES:
            fails(self, InvalidLine, {"at": 0}, Sums, ["a", "b"], [(value, [(1, "a")])] if value != "a" else [0], [])
            fails(self, InvalidLine, {"at": 0}, Sums, ["a", "b"], [("u", value)], [])
            fails(self, InvalidLine, {"at": 0}, Sums, ["a", "b"], [("u", [value])], [])
            if type(value) is not int or value == 0:
                fails(self, InvalidLine, {"at": 0}, Sums, ["a", "b"], [("u", [(value, "a")])], [])
            if value != "a":
                fails(self, InvalidLine, {"at": 0}, Sums, ["a", "b"], [("u", [(1, value)])], [])
        fails(self, InvalidLine, {"at": 1}, Sums, ["a", "b"], [right, right], ["s"])
        fails(self, InvalidLine, {"at": 1}, Sums, ["a", "b"], [right, ("t", [(1, "u")]), ("u", [(1, "a")])], ["s"])

    def test_number_of_parts(self):
        # With at most 8 inputs and 39 earlier lines there are no 49 different names: a name stands twice.
        lines = [("x" + LETTERS[at % 26] * (1 + at // 26), [(1, "a")]) for at in range(39)]
        names = list("abcdefgh") + [line[0] for line in lines]
        Sums(list("abcdefgh"), lines + [("last", [(1, name) for name in names])], ["last"])
        fails(self, InvalidLine, {"at": 39}, Sums, list("abcdefgh"),
              lines + [("last", [(1, name) for name in names + ["a", "b"]])], ["last"])

    def test_number_of_lines(self):
        lines = [("x" + LETTERS[at % 26] * (1 + at // 26), [(1, "a")]) for at in range(40)]
        fails(self, InvalidLine, {"at": 40}, Sums, ["a"], lines + [("z", [(1, "a")])], [])
        fails(self, InvalidLine, {"at": 40}, Sums, ["a"], lines + [None, None], [])
        fails(self, InvalidLine, {"at": 39}, Sums, ["a"], lines[:39] + [("xa", [(1, "a")]), lines[39]], [])
        fails(self, InvalidHead, {"part": "out"}, Sums, ["a"], lines, [])
        fails(self, Unused, {"name": "xa"}, Sums, ["a"], lines, ["a"])

    def test_outputs(self):
        lines = [("s", [(1, "a")])]
        for value in ANY_VALUES + ["abc", ["a"] * 9, ["a", "c"], ["s", "b", "t"], [["s"]], ["s", None]]:
            if isinstance(value, (list, tuple)):
                fails(self, InvalidHead, {"part": "out"}, Sums, ["a", "b"], lines, value)
        for value in WRONG_NAMES + ["c", "u"]:
            fails(self, InvalidHead, {"part": "out"}, Sums, ["a", "b"], lines, ["a", value])
        self.assertEqual(len(Sums(["a"], lines, ["s"] * 8).outputs), 8)

    def test_unused(self):
        fails(self, Unused, {"name": "b"}, Sums, ["a", "b", "c"], [("s", [(1, "a")])], ["s"])
        fails(self, Unused, {"name": "s"}, Sums, ["a"], [("s", [(1, "a")]), ("t", [(1, "a")])], ["a"])
        fails(self, Unused, {"name": "a"}, Sums, ["a", "b"], [("s", [(1, "b")])], ["b"])
        fails(self, Unused, {"name": "t"}, Sums, ["a"], [("s", [(1, "a")]), ("t", [(1, "s")])], ["s"])
        self.assertEqual(Sums(["a"], [("s", [(1, "a")]), ("t", [(1, "s")])], ["t"]).table(), [[1]])


class ValuesTest(unittest.TestCase):
    def test_in_many_rings(self):
        random = Random(1)
        for ring, things in all_samples():
            bench = drawn_bench(random, most_inputs=3, most_lines=4, great=3)
            chosen = [random.choice(things) for _ in bench.inputs]
            expected = []
            for row in bench.table():
                total = ring.zero()
                for factor, thing in zip(row, chosen):
                    total = ring.plus(total, ring.times(factor, thing))
                expected.append(total)
            self.assertTrue(same(bench.values(ring, *chosen), expected), ring)

    def test_by_hand(self):
        self.assertTrue(same(sample().values(Rests(10), 3, 4), [5, 4, 5]))
        self.assertTrue(same(sample().values(Whole(), (HUGE, 1), (0, 1)),
                             [(7 * HUGE, 1), (2 * HUGE, 1), (7 * HUGE, 1)]))

    def test_errors(self):
        bench, ring = sample(), Matrices(2, Rests(3))
        fails(self, WrongCount, {"given": 0}, bench.values, ring)
        fails(self, WrongCount, {"given": 1}, bench.values, ring, None)
        fails(self, WrongCount, {"given": 3}, bench.values, ring, None, None, None)
        for value in [value for value in ANY_VALUES if not ring.is_thing(value)]:
            fails(self, InvalidThing, {"given": value}, bench.values, ring, ring.zero(), value)
            fails(self, InvalidThing, {"given": value}, bench.values, ring, value, "other")


class TurnedTest(unittest.TestCase):
    def check(self, bench):
        turned = bench.turned()
        self.assertIs(type(turned), Sums)
        self.assertEqual(turned.table(), exchanged(bench.table()), bench.lines)
        self.assertEqual(turned.adds, bench.adds + len(bench.outputs) - len(bench.inputs))
        self.assertEqual((len(turned.inputs), len(turned.outputs)), (len(bench.outputs), len(bench.inputs)))
        self.assertEqual(Sums(turned.inputs, turned.lines, turned.outputs), turned)
        if len(turned.inputs) + len(turned.lines) <= 40:
            self.assertEqual(turned.turned().table(), bench.table())
        return turned

    def test_drawn_benches(self):
        random = Random(2)
        for _ in range(400):
            bench = drawn_bench(random)
            self.assertEqual(bench.table(), table_by_hand(bench))
            self.check(bench)

    def test_by_hand(self):
        self.check(sample())
        self.check(Sums(["a"], [], ["a"]))
        self.check(Sums(["a"], [], ["a"] * 8))
        self.check(Sums(list("abcdefgh"), [], list("hgfedcba")))
        self.check(Sums(list("abcdefgh"), [("s", [(-HUGE, name) for name in "abcdefgh"])], ["s"] * 8))
        self.check(Sums(["x", "y"], [("a", [(1, "x"), (1, "y")]), ("b", [(1, "a"), (1, "x")])], ["b", "a"]))

    def test_greatest_benches(self):
        for inputs in (1, 8):
            names = list("abcdefgh"[:inputs])
            lines = []
            for at in range(40 - inputs):
                parts = [(at + 1, name) for name in names] + [(-1, line[0]) for line in lines]
                lines.append(("x" + LETTERS[at % 26] * (1 + at // 26), parts))
            bench = Sums(names, lines, [lines[-1][0]] * 7 + [names[0]])
            self.check(bench)
            more = lines + [("last", [(1, lines[-1][0])])]
            fails(self, TooMany, {"most": 40}, Sums(names, more, ["last"]).turned)

    def test_too_many(self):
        lines = [("x" + LETTERS[at % 26] * (1 + at // 26), [(1, "a")]) for at in range(39)]
        bench = Sums(["a"], lines + [("last", [(1, line[0]) for line in lines])], ["last"])
        fails(self, TooMany, {"most": 40}, bench.turned)
        bench = Sums(["a"], lines[:38] + [("last", [(1, line[0]) for line in lines[:38]])], ["last"])
        self.check(bench)


if __name__ == "__main__":
    unittest.main()
