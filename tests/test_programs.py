"""Programs: what they are, their forms, their executed steps and their runs."""

import time
import unittest

from drawn import Drawer
from numbertypes.builds import Matrices
from numbertypes.errors import (
    DegreeTooHigh,
    InvalidHead,
    InvalidStep,
    InvalidThing,
    NoInverse,
    TooMany,
    UnknownName,
    WrongCount,
)
from numbertypes.forms import Form
from numbertypes.programs import Program
from numbertypes.rings import Fractions, Rests, Whole
from samples import ANY_VALUES, all_samples, fails, small_rings
from test_forms import names_of_methods

LONG = 10**29 + 7

SQUARE = ("sq", ["x"], [("multiply", "y", "x", "x")], "y")
TWICE = ("tw", ["x", "y"], [("call", "u", "sq", ("x",)), ("call", "v", "sq", ("y",)), ("add", "z", "u", "v")], "z")
STEPS = [("call", "p", "tw", ("a", "b")), ("share", "q", 2, 6, "p"), ("constant", "c", -4, 5),
         ("subtract", "r", "q", "c")]


def sample():
    return Program(["a", "b"], STEPS, ["r", "a", "r"], procedures=[SQUARE, TWICE])


def squaring(times, p, q):
    """A program that squares p / q so many times, and multiplies its input by that."""
    steps = [("constant", "z", p, q)]
    for at in range(times):
        steps.append(("multiply", "z" + chr(ord("a") + at), steps[-1][1], steps[-1][1]))
    return Program(["x"], steps + [("multiply", "y", steps[-1][1], "x")], ["y"])


def letters(count):
    return [one + other for one in "bcdefghijklm" for other in "abcdefghijklmopqrstuvwxyz"][:count]


class PartsTest(unittest.TestCase):
    def test_properties(self):
        program = sample()
        self.assertEqual(program.inputs, ("a", "b"))
        self.assertEqual(program.steps, tuple(STEPS))
        self.assertEqual(program.outputs, ("r", "a", "r"))
        self.assertEqual(program.procedures, (
            ("sq", ("x",), (("multiply", "y", "x", "x"),), "y"),
            ("tw", ("x", "y"), (("call", "u", "sq", ("x",)), ("call", "v", "sq", ("y",)), ("add", "z", "u", "v")), "z"),
        ))
        self.assertEqual((len(program), repr(program)), (4, "Program(2 inputs, 4 steps, 3 outputs)"))
        for name in ("inputs", "steps", "outputs", "procedures", "divisor"):
            with self.assertRaises(AttributeError):
                setattr(program, name, 1)

    def test_least_program(self):
        program = Program(["a"], [], ["a"])
        self.assertEqual((program.inputs, program.steps, program.outputs, program.procedures), (("a",), (), ("a",), ()))
        self.assertEqual((len(program), repr(program)), (0, "Program(1 inputs, 0 steps, 1 outputs)"))
        self.assertEqual((program.divisor, program.forms()), (1, [Form.word("a")]))
        self.assertEqual(program.run(Rests(5), 3), [3])

    def test_interface(self):
        self.assertLessEqual(
            {"inputs", "steps", "outputs", "procedures", "divisor", "text", "forms", "form_of", "executed", "flat",
             "run", "__init__", "__len__", "__eq__", "__repr__"},
            names_of_methods(Program),
        )

    def test_arguments_are_copied(self):
        inner = [("multiply", "y", "x", "x")]
        given = ["x"]
        procedures = [("sq", given, inner, "y")]
        inputs, steps, outputs = ["a"], [("call", "t", "sq", ("a",))], ["t"]
        program = Program(inputs, steps, outputs, procedures=procedures)
        kept = (program.text(), program.procedures, program.forms())
        for changed in (inner, given, procedures, inputs, steps, outputs):
            changed.clear()
        self.assertEqual((program.text(), program.procedures, program.forms()), kept)
        self.assertEqual(program.procedures, (("sq", ("x",), (("multiply", "y", "x", "x"),), "y"),))
        program.forms().append(1)
        self.assertEqual(len(program.forms()), 1)

    def test_tuples_instead_of_lists(self):
        procedures = (("sq", ("x",), (("multiply", "y", "x", "x"),), "y"),)
        program = Program(("a",), (("call", "t", "sq", ("a",)),), ("t",), procedures=procedures)
        self.assertEqual(program, Program(["a"], [("call", "t", "sq", ("a",))], ["t"], procedures=[SQUARE]))

    def test_arguments_by_name(self):
        program = Program(outputs=["t"], procedures=[SQUARE], inputs=["a"], steps=[("call", "t", "sq", ("a",))])
        self.assertEqual(program.form_of(name="t"), Form.read("a*a"))
        self.assertEqual(program.executed(word="multiply"), 1)
        with self.assertRaises(TypeError):
            Program(["a"], [], ["a"], [])

    def test_equality(self):
        self.assertIs(sample() == sample(), True)
        self.assertIs(sample() != sample(), False)
        other_ones = [
            Program(["b", "a"], STEPS, ["r", "a", "r"], procedures=[SQUARE, TWICE]),
            Program(["a", "b"], STEPS, ["r", "r", "a"], procedures=[SQUARE, TWICE]),
            Program(["a", "b"], STEPS[:1] + [("share", "q", 1, 3, "p")] + STEPS[2:], ["r", "a", "r"],
                    procedures=[SQUARE, TWICE]),
            Program(["a", "b"], STEPS, ["r", "a", "r"], procedures=[SQUARE, TWICE, ("no", ["x"], [], "x")]),
            sample().flat(),
        ]
        for other in other_ones:
            self.assertIs(sample() == other, False)
            self.assertIs(sample() != other, True)
        for value in ANY_VALUES + [sample().text(), repr(sample()), Program]:
            self.assertIs(sample() == value, False)


class FormsTest(unittest.TestCase):
    def test_forms(self):
        program = sample()
        self.assertEqual([form.text() for form in program.forms()],
                         ["1/3*a*a + 1/3*b*b + 4/5", "a", "1/3*a*a + 1/3*b*b + 4/5"])
        for name, text in (("a", "a"), ("b", "b"), ("p", "a*a + b*b"), ("q", "1/3*a*a + 1/3*b*b"), ("c", "-4/5"),
                           ("r", "1/3*a*a + 1/3*b*b + 4/5")):
            self.assertEqual(program.form_of(name).text(), text)

    def test_each_step(self):
        steps = [
            ("add", "c", "a", "b"), ("subtract", "d", "a", "b"), ("multiply", "e", "a", "b"),
            ("multiply", "f", "b", "a"),
            ("share", "g", -6, 4, "e"), ("constant", "h", 9, 3), ("share", "i", 0, 7, "a"), ("subtract", "j", "e", "e"),
        ]
        program = Program(["a", "b"], steps, ["a"])
        for name, text in (("c", "a + b"), ("d", "a - b"), ("e", "a*b"), ("f", "b*a"), ("g", "-3/2*a*b"), ("h", "3"),
                           ("i", "0"), ("j", "0")):
            self.assertEqual(program.form_of(name).text(), text)
        self.assertEqual(program.steps, tuple(steps))

    def test_unknown_names(self):
        for value in ANY_VALUES + ["x", "y", "sq", "tw", "u", "out", ["a"], ("a",)]:
            if value != "a":
                fails(self, UnknownName, {"name": value}, sample().form_of, value)

    def test_names_of_procedures(self):
        # Parameters and inner targets are names of their own, and parameters may be called like procedures.
        inner = ("f", ["f", "a"], [("subtract", "b", "f", "a"), ("multiply", "z", "b", "b")], "b")
        outer = ("g", ["f"], [("constant", "h", 1, 1), ("call", "b", "f", ("h", "f"))], "b")
        program = Program(["a", "b"], [("call", "z", "g", ("b",)), ("call", "c", "f", ("z", "a"))], ["c", "z"],
                          procedures=[inner, outer, ("h", ["g", "h", "x"], [], "h")])
        self.assertEqual([form.text() for form in program.forms()], ["-a - b + 1", "-b + 1"])
        self.assertEqual((program.executed("subtract"), program.executed("multiply"), len(program)), (2, 2, 2))

    def test_results_that_are_parameters(self):
        last = ("pick", ["x", "y"], [("add", "z", "x", "y")], "y")
        program = Program(["a", "b"], [("call", "c", "pick", ("a", "b")), ("call", "d", "pick", ("c", "c"))], ["d"],
                          procedures=[last])
        self.assertEqual(program.forms(), [Form.word("b")])
        self.assertEqual(program.executed("add"), 2)
        self.assertEqual(program.run(Rests(9), 4, 7), [7])
        nothing = Program(["a"], [("call", "c", "same", ("a",))], ["c"], procedures=[("same", ["x"], [], "x")])
        self.assertEqual((nothing.forms(), nothing.flat().steps), ([Form.word("a")], ()))

    def test_executed(self):
        program = sample()
        for word, count in (("add", 1), ("subtract", 1), ("multiply", 2), ("share", 1), ("constant", 1), ("call", 0),
                            ("", 0), ("Add", 0), ("in", 0)):
            self.assertEqual(program.executed(word), count)

    def test_divisor(self):
        self.assertEqual(sample().divisor, 30)
        steps = [("share", "b", 2, 2, "a"), ("constant", "c", 0, 9), ("constant", "d", 5, 12)]
        self.assertEqual(Program(["a"], steps, ["a"]).divisor, 6)
        self.assertEqual(Program(["a"], [("constant", "c", 1, 999)], ["a"]).divisor, 111)
        primes = [q for q in range(2, 1000) if all(q % k for k in range(2, q))]
        names = letters(len(primes))
        product = 1
        for q in primes:
            product *= q
        steps = [("constant", name, 1, q) for name, q in zip(names, primes)]
        self.assertEqual(Program(["a"], steps, ["a"]).divisor, product)
        # Procedures that are not called do not matter.
        unused = ("no", ["x"], [("share", "y", 1, 7, "x"), ("multiply", "z", "y", "y"), ("multiply", "w", "z", "z")],
                  "x")
        program = Program(["a"], [], ["a"], procedures=[unused])
        self.assertEqual((program.divisor, program.executed("multiply"), program.executed("share")), (1, 0, 0))

    def test_a_number_that_is_squared_fourteen_times(self):
        for p, q in ((7, 1), (-2, 3), (LONG, 1), (10, 999)):
            start = time.perf_counter()
            program = squaring(14, p, q)
            ring = Rests(10**9 - 63)
            found = p * pow(q, -1, 10**9 - 63) % (10**9 - 63)
            self.assertEqual(program.run(ring, 5), [pow(found, 2**14, 10**9 - 63) * 5 % (10**9 - 63)])
            form = program.forms()[0]
            self.assertEqual(form.share_of("x")[0], p ** (2**14))
            self.assertEqual(form.value(ring, {"x": 5}), program.run(ring, 5)[0])
            self.assertGreater(len(form.text()), 4900)
            self.assertLess(time.perf_counter() - start, 60)


class FlatTest(unittest.TestCase):
    def test_flat(self):
        made = Drawer(21)
        programs = [made.program(["a", "b"][: made.random.randint(1, 2)], (1, 2, 6, 15)) for _ in range(150)]
        for program in programs + [sample(), Program(["a"], [], ["a", "a"]), squaring(10, 3, 2)]:
            flat = program.flat()
            self.assertEqual(flat.procedures, ())
            self.assertEqual(flat.inputs, program.inputs)
            self.assertEqual(flat.forms(), program.forms())
            self.assertEqual(flat.divisor, program.divisor)
            total = 0
            for word in ("add", "subtract", "multiply", "share", "constant"):
                self.assertEqual(flat.executed(word), program.executed(word))
                total += program.executed(word)
            self.assertEqual(len(flat), total)

    def test_most_steps(self):
        procedure = ("f", ["x"], [("add", "y" + letter, "x", "x") for letter in "abcdefghijkl"], "ya")
        steps = [("call", name, "f", ("a",)) for name in letters(20)]
        program = Program(["a", "b", "ba", "bb"][:2], steps, ["ba", "a"], procedures=[procedure])
        self.assertEqual(len(program.flat()), 240)
        self.assertEqual(program.flat().forms(), program.forms())


class RunTest(unittest.TestCase):
    def test_by_hand(self):
        self.assertEqual(sample().run(Rests(7), 2, 3), [(13 * 5 + 4 * 3) % 7, 2, (13 * 5 + 4 * 3) % 7])
        self.assertEqual(sample().run(Fractions(), (1, 2), (3, 1)), [(233, 60), (1, 2), (233, 60)])
        program = Program(["a", "b"], [("multiply", "c", "a", "b"), ("multiply", "d", "b", "a")], ["c", "d"])
        x, y = ((0, 1), (0, 0)), ((0, 0), (1, 0))
        self.assertEqual(program.run(Matrices(2, Rests(2)), x, y), [((1, 0), (0, 0)), ((0, 0), (0, 1))])

    def test_runs_are_the_values_of_the_forms(self):
        made = Drawer(4)
        programs = [made.program(["a", "b"], (1, 5, 7)) for _ in range(6)]
        for ring, things in all_samples():
            for program in programs:
                if not ring.has_inverse(program.divisor):
                    continue
                x, y = things[-1], things[-2]
                expected = [form.value(ring, {"a": x, "b": y}) for form in program.forms()]
                self.assertEqual(program.run(ring, x, y), expected, (ring, program.text()))

    def test_all_things_of_small_rings(self):
        made = Drawer(6)
        for ring in small_rings():
            things = list(ring.things())[:12]
            program = made.program(["a", "b"], [q for q in (1, 2, 3, 5) if ring.has_inverse(q)])
            forms = program.forms()
            for x in things:
                for y in things:
                    self.assertEqual(program.run(ring, x, y), [form.value(ring, {"a": x, "b": y}) for form in forms])

    def test_errors_in_their_order(self):
        program = sample()
        ring = Rests(6)
        for things in ((), (1,), ("x",), (1, 2, 3), (None, None, None)):
            fails(self, WrongCount, {"given": len(things)}, program.run, ring, *things)
        for value in ANY_VALUES:
            if not ring.is_thing(value):
                fails(self, InvalidThing, {"given": value}, program.run, ring, value, "other")
                fails(self, InvalidThing, {"given": value}, program.run, ring, 1, value)
        fails(self, NoInverse, {"number": 6}, program.run, ring, 1, 2)
        fails(self, NoInverse, {"number": 6}, program.run, Rests(15), 1, 2)
        fails(self, NoInverse, {"number": 5}, program.run, Rests(25), 1, 2)
        fails(self, NoInverse, {"number": 5}, program.run, Whole(6), (1, 1), (1, 1))

    def test_inverses_of_denominators_as_they_are_written(self):
        program = Program(["a"], [("share", "b", 2, 2, "a"), ("constant", "c", 0, 3)], ["b"])
        fails(self, NoInverse, {"number": 2}, program.run, Rests(4), 1)
        fails(self, NoInverse, {"number": 3}, program.run, Rests(9), 1)
        self.assertEqual(program.run(Rests(5), 3), [3])

    def test_a_step_of_a_procedure_that_cannot_be_executed(self):
        procedures = [("f", ["x"], [("share", "y", 1, 3, "x")], "x")]
        steps = [("constant", "c", 1, 2), ("call", "d", "f", ("a",)), ("constant", "e", 1, 5)]
        program = Program(["a"], steps, ["a"], procedures=procedures)
        for modulus, q in ((30, 2), (15, 3), (5, 5), (10, 2)):
            fails(self, NoInverse, {"number": q}, program.run, Rests(modulus), 1)


class HeadsTest(unittest.TestCase):
    def test_wrong_inputs(self):
        for value in ANY_VALUES + ["A", "proc", "abcdefg", ["a"], ("a",)]:
            if value != "a":
                fails(self, InvalidHead, {"part": "in"}, Program, [value], [], ["a"])
                fails(self, InvalidHead, {"part": "in"}, Program, ["a", value], ["wrong"], ["wrong"])
        for inputs in ([], (), ["a", "a"], ["a", "b", "a"], ["a", "b", "c", "d", "e"]):
            fails(self, InvalidHead, {"part": "in"}, Program, inputs, [], ["a"])
        fails(self, InvalidHead, {"part": "in"}, Program, ["a", "sq"], ["wrong"], [], procedures=[SQUARE])
        self.assertEqual(len(Program(["a", "b", "c", "d"], [], ["a"]).inputs), 4)

    def test_wrong_outputs(self):
        for value in ANY_VALUES + ["x", "A", "in", ["a"], ("a",), "sq", "y"]:
            if value != "a":
                fails(self, InvalidHead, {"part": "out"}, Program, ["a"], [], [value], procedures=[SQUARE])
                fails(self, InvalidHead, {"part": "out"}, Program, ["a"], [], ("a", value))
        for outputs in ([], (), ["a"] * 5, "a", None, 1):
            fails(self, InvalidHead, {"part": "out"}, Program, ["a"], [], outputs)
        self.assertEqual(Program(["a"], [], ["a"] * 4).outputs, ("a",) * 4)

    def test_too_many_procedures(self):
        four = [("f" + letter, ["x"], [], "x") for letter in "abcd"]
        self.assertEqual(len(Program(["a"], [], ["a"], procedures=four[:3]).procedures), 3)
        fails(self, InvalidHead, {"part": 3}, Program, ["a"], [], ["a"], procedures=four)
        fails(self, InvalidHead, {"part": 3}, Program, [], None, [], procedures=[None] * 4)
        fails(self, InvalidHead, {"part": 3}, Program, [], [], [], procedures=tuple(ANY_VALUES))

    def test_wrong_procedures(self):
        wrong = ANY_VALUES + [
            ["f", ["x"], [], "x"], ("f", ["x"], []), ("f", ["x"], [], "x", 1), ("in", ["x"], [], "x"),
            (1, ["x"], [], "x"),
            (["f"], ["x"], [], "x"), ("F", ["x"], [], "x"), ("f", [], [], "x"), ("f", (), [], "x"), ("f", "x", [], "x"),
            ("f", None, [], "x"), ("f", ["x", "x"], [], "x"), ("f", ["a", "b", "c", "d"], [], "a"),
            ("f", ["out"], [], "out"),
            ("f", [1], [], 1), ("f", [["x"]], [], "x"), ("f", {"x": 1}, [], "x"), ("f", ["x"], None, "x"),
            ("f", ["x"], "", "x"), ("f", ["x"], 5, "x"), ("f", ["x"], True, "x"), ("f", ["x"], [], "y"),
            ("f", ["x"], [], "f"), ("f", ["x"], [], None), ("f", ["x"], [], ["x"]), ("f", ["x"], [], ("x",)),
            ("f", ["x"], [("constant", "y", 1, 1)], "z"), ("f", ["x"], [], "a"), ("f", ["x"], [], 10**5000),
        ]
        for value in wrong:
            fails(self, InvalidHead, {"part": 0}, Program, [], ["wrong"], [], procedures=[value, None])
            fails(self, InvalidHead, {"part": 1}, Program, ["a"], [], ["a"], procedures=[SQUARE, value])
        fails(self, InvalidHead, {"part": 1}, Program, ["a"], [], ["a"], procedures=[SQUARE, SQUARE])
        fails(self, InvalidHead, {"part": 2}, Program, ["a"], [], ["a"],
              procedures=[SQUARE, TWICE, ("sq", ["x"], [], "x")])

    def test_order_within_a_procedure(self):
        bent = ("f", ["x"], ["wrong"], "no name")
        fails(self, InvalidStep, {"procedure": 0, "at": 0}, Program, [], [], [], procedures=[bent, None])
        fails(self, InvalidHead, {"part": 0}, Program, [], [], [], procedures=[("f", ["x"], [], "y"), bent])
        fails(self, InvalidHead, {"part": 0}, Program, [], [], [], procedures=[("f", ["x"], None, "y"), bent])

    def test_order_of_the_program(self):
        high = [("multiply", "b", "a", "a"), ("multiply", "c", "b", "a")]
        many = [("add", name, "a", "a") for name in letters(240)]
        fails(self, InvalidHead, {"part": "in"}, Program, [], ["wrong"], [])
        fails(self, InvalidStep, {"procedure": None, "at": 2}, Program, ["a"], high + ["wrong"], [])
        fails(self, InvalidHead, {"part": "out"}, Program, ["a"], high, [])
        procedures = [("f", ["x"], high_steps(), "x")]
        fails(self, InvalidHead, {"part": "out"}, Program, ["a"], many[1:] + [("call", "z", "f", ("a",))], [],
              procedures=procedures)
        fails(self, TooMany, {"most": 240}, Program, ["a"], many[1:] + [("call", "z", "f", ("a",))], ["a"],
              procedures=procedures)
        fails(self, DegreeTooHigh, {"at": 1}, Program, ["a"], high, ["a"])


def high_steps():
    return [("multiply", "y", "x", "x"), ("multiply", "z", "y", "x")]


WRONG_STEPS = ANY_VALUES + [
    ["add", "t", "a", "b"], ("add",), ("add", "t"), ("add", "t", "a"), ("add", "t", "a", "b", "a"),
    ("Add", "t", "a", "b"),
    ("plus", "t", "a", "b"), (1, "t", "a", "b"), (None, "t", "a", "b"), (["add"], "t", "a", "b"), ("", "t", "a", "b"),
    ("add", "a", "a", "b"), ("add", "b", "a", "b"), ("add", "in", "a", "b"), ("add", "T", "a", "b"),
    ("add", 1, "a", "b"), ("add", None, "a", "b"), ("add", ["t"], "a", "b"), ("add", "abcdefg", "a", "b"),
    ("add", "t", "x", "b"), ("add", "t", "a", "t"), ("add", "t", "t", "a"), ("add", "t", 1, "b"), ("add", "t", "a", 1),
    ("add", "t", ["a"], "b"), ("add", "t", "a", ("b",)), ("add", "t", "a", "f"), ("add", "f", "a", "b"),
    ("subtract", "t", "x", "b"), ("subtract", "t", "a", None), ("subtract", "t", "a"), ("subtract", "t", "a", "b", "a"),
    ("multiply", "t", "a", "x"), ("multiply", "t", True, "b"), ("multiply", "t", "a", "b", 1),
    ("multiply", "f", "a", "b"),
    ("share", "t", 1, 1), ("share", "t", 1, 1, "a", "b"), ("share", "t", 1, 0, "a"), ("share", "t", 1, 1000, "a"),
    ("share", "t", 1, -1, "a"), ("share", "t", True, 1, "a"), ("share", "t", 1, True, "a"), ("share", "t", "1", 1, "a"),
    ("share", "t", 1, None, "a"), ("share", "t", (1,), 1, "a"), ("share", "t", 1, 1, "x"), ("share", "t", 1, 1, 1),
    ("share", "t", 1, 1, ["a"]), ("share", "f", 1, 1, "a"), ("share", "a", 1, 1, "a"), ("share", "t", 1, 10**40, "a"),
    ("constant", "t", 1), ("constant", "t", 1, 1, "a"), ("constant", "t", 1, 0), ("constant", "t", 1, 1000),
    ("constant", "t", 1, -3), ("constant", "t", False, 1), ("constant", "t", 1, False), ("constant", "t", None, 1),
    ("constant", "t", 1, "2"), ("constant", "f", 1, 1), ("constant", "b", 1, 1), ("constant", "out", 1, 1),
    ("call", "t", "f"), ("call", "t", "f", ("a", "b"), "a"), ("call", "t", "f", ["a", "b"]), ("call", "t", "f", "ab"),
    ("Call", "t", "f", ("a", "b")), ("", "t", "f", ("a", "b")), (1, "t", "f", ("a", "b")), ("f", "t", "f", ("a", "b")),
    ("call", "t", "f", ("a",)), ("call", "t", "f", ("a", "b", "a")), ("call", "t", "f", ()), ("call", "t", "f", None),
    ("call", "t", "f", ("a", "x")), ("call", "t", "f", ("a", 1)), ("call", "t", "f", ("a", ["b"])),
    ("call", "t", "f", ("a", "t")), ("call", "t", "g", ("a", "b")), ("call", "t", "a", ("a", "b")),
    ("call", "t", 1, ("a", "b")), ("call", "t", ["f"], ("a", "b")), ("call", "f", "f", ("a", "b")),
    ("call", "a", "f", ("a", "b")), ("call", "t", "f", 5), ("call", None, "f", ("a", "b")),
]


class StepsTest(unittest.TestCase):
    def test_wrong_steps_of_the_program(self):
        first = ("f", ["x", "y"], [], "x")
        for value in WRONG_STEPS:
            fails(self, InvalidStep, {"procedure": None, "at": 0}, Program, ["a", "b"], [value], ["a"],
                  procedures=[first])
            good = [("add", "c", "a", "b"), ("call", "d", "f", ("a", "c"))]
            fails(self, InvalidStep, {"procedure": None, "at": 2}, Program, ["a", "b"], good + [value, None], [],
                  procedures=[first])

    def test_wrong_steps_of_procedures(self):
        first = ("f", ["x", "y"], [], "x")
        for value in WRONG_STEPS:
            second = ("h", ["a", "b"], [("add", "c", "a", "b"), value], "a")
            fails(self, InvalidStep, {"procedure": 1, "at": 1}, Program, [], [], [], procedures=[first, second])

    def test_targets_come_once(self):
        steps = [("add", "t", "a", "a"), ("add", "u", "t", "a"), ("add", "t", "u", "a")]
        fails(self, InvalidStep, {"procedure": None, "at": 2}, Program, ["a"], steps, ["a"])
        fails(self, InvalidStep, {"procedure": 0, "at": 2}, Program, ["b"], [], ["b"],
              procedures=[("f", ["a"], steps, "a")])

    def test_names_of_procedures(self):
        def program(targets, inputs=("a",)):
            procedures = []
            for name, target in zip(("f", "g", "h"), targets):
                procedures.append((name, ["x"], [("constant", target, 1, 1)], "x"))
            return Program(inputs, [("constant", targets[3], 1, 1)], ["a"], procedures=procedures)

        # A target may have the name of a procedure further behind only.
        self.assertEqual(len(program(["h", "h", "z", "z"])), 1)
        self.assertEqual(len(program(["g", "z", "z", "x"])), 1)
        for targets, where in (
            (["f", "z", "z", "z"], 0), (["z", "f", "z", "z"], 1), (["z", "g", "z", "z"], 1), (["z", "z", "f", "z"], 2),
            (["z", "z", "g", "z"], 2), (["z", "z", "h", "z"], 2), (["z", "z", "z", "f"], None),
            (["z", "z", "z", "h"], None),
        ):
            fails(self, InvalidStep, {"procedure": where, "at": 0}, program, targets)
        fails(self, InvalidHead, {"part": "in"}, program, ["z", "z", "z", "z"], inputs=["a", "g"])

    def test_procedures_call_those_ahead_only(self):
        call = [("call", "y", "g", ("x",))]
        fails(self, InvalidStep, {"procedure": 0, "at": 0}, Program, ["a"], [], ["a"],
              procedures=[("f", ["x"], call, "x"), ("g", ["x"], [], "x")])
        fails(self, InvalidStep, {"procedure": 0, "at": 0}, Program, ["a"], [], ["a"],
              procedures=[("g", ["x"], call, "x")])
        self.assertEqual(len(Program(["a"], [], ["a"], procedures=[("g", ["x"], [], "x"), ("f", ["x"], call, "y")])), 0)

    def test_inner_names_are_not_known_outside(self):
        for name in ("x", "y"):
            steps = [("call", "t", "sq", ("a",)), ("add", "u", "t", name)]
            fails(self, InvalidStep, {"procedure": None, "at": 1}, Program, ["a"], steps, ["a"], procedures=[SQUARE])

    def test_bounds_of_numbers(self):
        steps = [("constant", "c", LONG, 999), ("share", "d", -LONG, 1, "c"), ("share", "e", 10**6000, 999, "a")]
        self.assertEqual(Program(["a"], steps, ["a"]).steps, tuple(steps))

    def test_twelve_steps_of_a_procedure(self):
        steps = [("add", "y" + letter, "x", "x") for letter in "abcdefghijklm"]
        self.assertEqual(len(Program(["a"], [], ["a"], procedures=[("f", ["x"], steps[:12], "x")])), 0)
        for last in ([steps[12]], ["wrong"], [steps[12], steps[12]]):
            fails(self, InvalidStep, {"procedure": 0, "at": 12}, Program, [], [], [],
                  procedures=[("f", ["x"], steps[:12] + last, "z")])
        fails(self, InvalidStep, {"procedure": 0, "at": 11}, Program, [], [], [],
              procedures=[("f", ["x"], steps[:11] + ["wrong"] + steps[11:], "x")])

    def test_two_hundred_and_forty_steps(self):
        steps = [("add", name, "a", "a") for name in letters(243)]
        self.assertEqual(len(Program(["a"], steps[:240], ["a"])), 240)
        for last in ([steps[240]], ["wrong"], steps[240:]):
            fails(self, InvalidStep, {"procedure": None, "at": 240}, Program, ["a"], steps[:240] + last, [])
        fails(self, InvalidStep, {"procedure": None, "at": 239}, Program, ["a"], steps[:239] + ["wrong"] + steps[239:],
              [])

    def test_two_hundred_and_forty_executed_steps(self):
        twelve = ("f", ["x"], [("add", "y" + letter, "x", "x") for letter in "abcdefghijkl"], "ya")
        calls = [("call", name, "f", ("a",)) for name in letters(21)]
        program = Program(["a"], calls[:20], ["a"], procedures=[twelve])
        self.assertEqual(program.executed("add"), 240)
        fails(self, TooMany, {"most": 240}, Program, ["a"], calls, ["a"], procedures=[twelve])
        fails(self, TooMany, {"most": 240}, Program, ["a"], calls[:20] + [("add", "z", "a", "a")], ["a"],
              procedures=[twelve])
        empty = [("call", name, "g", ("a",)) for name in letters(240)]
        self.assertEqual(len(Program(["a"], empty, ["a"], procedures=[("g", ["x"], [], "x")])), 240)

    def test_calls_in_calls_are_counted_fast(self):
        one = ("f", ["x"], [("multiply", "y" + letter, "x", "x") for letter in "abcdefghijkl"], "ya")
        two = ("g", ["x"], [("call", "y" + letter, "f", ("x",)) for letter in "abcdefghijkl"], "x")
        three = ("h", ["x"], [("call", "y" + letter, "g", ("x",)) for letter in "abcdefghijkl"], "x")
        calls = [("call", name, "h", ("a",)) for name in letters(240)]
        fails(self, TooMany, {"most": 240}, Program, ["a"], calls, ["a"], procedures=[one, two, three])
        fails(self, TooMany, {"most": 240}, Program, ["a"], [("call", "t", "g", ("a",)), ("call", "u", "g", ("t",))],
              ["a"],
              procedures=[one, two, three])
        program = Program(["a"], [("call", "t", "g", ("a",))], ["t"], procedures=[one, two, three])
        self.assertEqual(program.executed("multiply"), 144)

    def test_degree_too_high(self):
        product = ("multiply", "b", "a", "a")
        for steps, at in (
            ([product, ("multiply", "c", "a", "b")], 1),
            ([product, ("add", "c", "a", "b"), ("multiply", "d", "c", "c"), ("multiply", "e", "b", "b")], 2),
            ([product, ("share", "c", 1, 2, "b"), ("share", "d", 1, 2, "a"), ("multiply", "e", "d", "c")], 3),
            ([("call", "t", "sq", ("a",)), ("call", "u", "sq", ("t",))], 1),
            ([("call", "t", "sq", ("a",)), ("call", "u", "tw", ("a", "t")), ("call", "v", "sq", ("t",))], 1),
        ):
            fails(self, DegreeTooHigh, {"at": at}, Program, ["a"], steps, ["a"], procedures=[SQUARE, TWICE])
        zero = [product, ("subtract", "c", "b", "b"), ("multiply", "d", "c", "b"), ("multiply", "e", "b", "d")]
        self.assertEqual(Program(["a"], zero, ["e"]).forms(), [Form()])
        constant = [product, ("constant", "c", 5, 2), ("multiply", "d", "c", "b"), ("multiply", "e", "d", "c")]
        self.assertEqual(Program(["a"], constant, ["e"]).forms(), [Form.read("25/4*a*a")])
        unused = [("f", ["x"], high_steps(), "x")]
        self.assertEqual(Program(["a"], [], ["a"], procedures=unused).forms(), [Form.word("a")])
        fails(self, DegreeTooHigh, {"at": 1}, Program, ["a"], [product, ("call", "c", "f", ("a",))], ["a"],
              procedures=unused)
        low = [("constant", "c", 2, 3), ("call", "d", "f", ("c",))]
        self.assertEqual(len(Program(["a"], low, ["d"], procedures=unused)), 2)


if __name__ == "__main__":
    unittest.main()
