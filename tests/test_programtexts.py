"""The texts of programs, and reading them."""

import unittest

from drawn import Drawer
from numbertypes.errors import DegreeTooHigh, InvalidHead, InvalidStep, InvalidText, TooMany
from numbertypes.programs import Program
from numbertypes.programtexts import read_program
from samples import ANY_VALUES, fails
from test_programs import LONG, SQUARE, STEPS, TWICE, letters, sample

TEXT = """proc sq x
y = x * x
give y
proc tw x y
u = sq(x)
v = sq(y)
z = u + v
give z
in a b
p = tw(a, b)
q = 2/6 * p
c = -4/5
r = q - c
out r a r
"""

GOOD_STEPS = [
    ("t = a + b", ("add", "t", "a", "b")), ("t = a - b", ("subtract", "t", "a", "b")),
    ("t = a * b", ("multiply", "t", "a", "b")), ("t = 3 * a", ("share", "t", 3, 1, "a")),
    ("t = -3 * a", ("share", "t", -3, 1, "a")), ("t = 3/2 * a", ("share", "t", 3, 2, "a")),
    ("t = -30/20 * a", ("share", "t", -30, 20, "a")), ("t = 0 * a", ("share", "t", 0, 1, "a")),
    ("t = 0/7 * a", ("share", "t", 0, 7, "a")), ("t = 3", ("constant", "t", 3, 1)),
    ("t = -3", ("constant", "t", -3, 1)),
    ("t = 0", ("constant", "t", 0, 1)), ("t = 6/999", ("constant", "t", 6, 999)),
    ("t = -1/2", ("constant", "t", -1, 2)), ("t = " + "9" * 30, ("constant", "t", 10**30 - 1, 1)),
    ("t = -" + "9" * 30 + "/2 * a", ("share", "t", 1 - 10**30, 2, "a")),
    ("t = f(a, b)", ("call", "t", "f", ("a", "b"))),
    ("t = g(a)", ("call", "t", "g", ("a",))), ("t = h(a, b, a)", ("call", "t", "h", ("a", "b", "a"))),
]

# Lines that are of no form at all, wherever they stand.
BENT_LINES = [
    "", " ", "t", "t =", "t = ", "t=a", "t =a + b", "t= a + b", "= a + b", " = a + b", "t == a + b", "t a + b",
    "t = a", "t = a +", "t = + a", "t = a + ", "t = a+b", "t = a +b", "t = a+ b", "t  = a + b", "t =  a + b",
    "t = a  + b", "t = a +  b", " t = a + b", "t = a + b ", "t = a + b + c", "t = a / b", "t = a ** b", "t = a ^ b",
    "t = -a", "t = a + -b", "t = 3 + a", "t = a + 3", "t = 3 - a", "t = a - 1/2", "t = a * 3", "t = a * 1/2",
    "t = 3 * 3", "t = 1/2 * 3", "t = 3*a", "t = 3 *a", "t = 3* a", "t = 3/2*a", "t = 3 / 2 * a", "t = 3/1",
    "t = 3/0", "t = 3/1 * a", "t = 3/0 * a", "t = 3/02", "t = 3/-2", "t = 3/+2", "t = /2", "t = 3/", "t = 3/2/2",
    "t = 03", "t = 00", "t = -0", "t = -03", "t = +3", "t = --3", "t = - 3", "t = -", "t = -0/2", "t = -0 * a",
    "t = 03/2 * a", "t = 3.0", "t = 1e3", "t = 1_0", "t = " + "9" * 31, "t = -1" + "0" * 30, "t = 1/1" + "0" * 30,
    "t = 1" + "0" * 30 + " * a", "t = x3", "t = 3x", "t = in + b", "t = a + out", "t = a * give", "in = a + b",
    "proc = a + b", "out = 3", "give = 3", "T = a + b", "t = A + b", "t = a + B", "abcdefg = a + b",
    "t = abcdefg + a", "t1 = a + b", "t = f()", "t = f( )", "t = f(a,b)", "t = f(a , b)", "t = f(a,  b)",
    "t = f( a)", "t = f(a )", "t = f (a)", "t = f(a, )", "t = f(, a)", "t = f(a", "t = f a)", "t = fa)", "t = (a)",
    "t = f(a))", "t = f((a)", "t = f(a)(b)", "t = f(a) + b", "t = b + f(a)", "t = 2 * f(a)", "t = f(2)", "t = F(a)",
    "t = f(A)", "t = in(a)", "t = f(in)", "t = f(a, 2)", "t = f(a b)", "t = f(a)b", "t = f[a]", "t = f(a;b)",
    "t, u = a", "t = a = b", "t = a + b = c", "t := a + b", "add t a b", "proc", "proc ", "proc f", "proc f ",
    "proc f  x", "proc  f x", "proc f x ", "proc F x", "proc f X", "proc in x", "proc f in", "proc f 1", "proc f x, y",
    " proc f x", "procf x", "Proc f x", "give", "give ", "give x y", "give  x", "give x ", "give X", "give in",
    "give 1",
    "in", "in ", "in  x", "in x ", "in x  y", "in X", "in x, y", "in in", "in 1", "In x", " in x", "inx", "out", "out ",
    "out  x", "out x ", "out X", "out x, y", "out 1", "out in", "OUT x", "~", "# note", "\"", "x" * 3900,
]


class TextTest(unittest.TestCase):
    def test_text(self):
        self.assertEqual(sample().text(), TEXT)
        self.assertEqual(read_program(TEXT), sample())
        self.assertEqual(read_program(text=TEXT).steps, tuple(STEPS))
        self.assertEqual(read_program(TEXT), Program(["a", "b"], STEPS, ["r", "a", "r"], procedures=[SQUARE, TWICE]))

    def test_least_text(self):
        program = Program(["a"], [], ["a"])
        self.assertEqual(program.text(), "in a\nout a\n")
        self.assertEqual(read_program("in a\nout a\n"), program)
        text = "proc f x\ngive x\nin a b c d\nout d a a b\n"
        self.assertEqual(read_program(text).text(), text)

    def test_lines_of_steps(self):
        procedures = [("f", ["x", "y"], [], "x"), ("g", ["x"], [], "x"), ("h", ["x", "y", "z"], [], "x")]
        heads = "proc f x y\ngive x\nproc g x\ngive x\nproc h x y z\ngive x\n"
        for line, step in GOOD_STEPS:
            text = heads + "in a b\n" + line + "\nout t\n"
            program = Program(["a", "b"], [step], ["t"], procedures=procedures)
            self.assertEqual(program.text(), text)
            self.assertEqual(read_program(text), program)
            self.assertEqual(read_program(text).steps, (step,))

    def test_there_and_back(self):
        made = Drawer(12)
        for _ in range(200):
            program = made.program(["a", "b", "c"], (1, 2, 3, 999))
            self.assertEqual(read_program(program.text()), program)
            flat = program.flat()
            self.assertEqual(read_program(flat.text()), flat)

    def test_most_steps(self):
        steps = [("add", name, "a", "a") for name in letters(240)]
        program = Program(["a"], steps, ["a"])
        self.assertEqual(read_program(program.text()), program)

    def test_numbers_of_thousands_of_digits(self):
        program = Program(["a"], [("constant", "b", -(10**5000), 7), ("share", "c", 10**5000, 1, "a")], ["a"])
        zeros = "0" * 5000
        self.assertEqual(program.text(), "in a\nb = -1" + zeros + "/7\nc = 1" + zeros + " * a\nout a\n")


class BentTest(unittest.TestCase):
    def test_values_that_are_no_strings(self):
        for value in ANY_VALUES + [["in a\n", "out a\n"]]:
            if not isinstance(value, str):
                fails(self, InvalidText, {"line": 0}, read_program, value)

    def test_bent_lines(self):
        for line in BENT_LINES:
            for ahead in ("", "in a b\n", "in a b\nc = a + b\n", "proc f x\n", "proc f x\ny = x + x\n",
                          "proc f x\ngive x\n",
                          "in a b\nout a\n", "proc f x\ngive x\nin a b\n"):
                for behind in ("\n", "\nin a\nout a\n", "\nout a\n", "\nwrong\n", "\ngive x\nin a\nout a\n"):
                    fails(self, InvalidText, {"line": ahead.count("\n")}, read_program, ahead + line + behind)

    def test_lines_that_cannot_stand_there(self):
        for text, line in (
            ("out a\n", 0), ("give a\n", 0), ("t = a + a\nin a\nout a\n", 0), ("in a\nin a\nout a\n", 1),
            ("in a\nproc f x\ngive x\nout a\n", 1), ("in a\ngive a\nout a\n", 1), ("in a\nout a\nout a\n", 2),
            ("in a\nout a\nin a\n", 2), ("in a\nout a\nt = a + a\n", 2), ("in a\nout a\nproc f x\n", 2),
            ("in a\nout a\n\n", 2), ("in a\nt = a + a\nin a\nout t\n", 2), ("proc f x\nproc g x\n", 1),
            ("proc f x\nin a\nout a\n", 1), ("proc f x\nout x\n", 1), ("proc f x\ngive x\nout a\n", 2),
            ("proc f x\ngive x\ngive x\n", 2), ("proc f x\ngive x\nt = a + a\n", 2),
            ("proc f x\ny = x + x\nin a\nout a\n", 2),
            ("\nin a\nout a\n", 0), ("in a\n\nout a\n", 1), ("wrong\nwrong\n", 0), ("in a\nwrong\nwrong\n", 1),
        ):
            fails(self, InvalidText, {"line": line}, read_program, text)

    def test_texts_that_end_too_early(self):
        for count, line in enumerate(TEXT.split("\n")[:-1]):
            ahead = "".join(part + "\n" for part in TEXT.split("\n")[:count])
            fails(self, InvalidText, {"line": count}, read_program, ahead)
            # The line feed of the last line is missing.
            fails(self, InvalidText, {"line": count}, read_program, ahead + line)
            fails(self, InvalidText, {"line": count}, read_program, ahead + line[:-1])
        fails(self, InvalidText, {"line": 0}, read_program, "")
        for behind in ("x", " ", "in a", "out a", "~"):
            fails(self, InvalidText, {"line": 14}, read_program, TEXT + behind)
        fails(self, InvalidText, {"line": 1}, read_program, "in a\nwrong\nout a")

    def test_the_first_wrong_line_goes_first(self):
        lines = TEXT.split("\n")
        for at in range(len(lines) - 1):
            bent = lines[:at] + ["wrong"] + lines[at + 1 :]
            fails(self, InvalidText, {"line": at}, read_program, "\n".join(bent))
            fails(self, InvalidText, {"line": at}, read_program, "\n".join(bent[:-1]))
            fails(self, InvalidText, {"line": at}, read_program, "\n".join(bent[: at + 1]))


class ErrorsOfProgramsTest(unittest.TestCase):
    def test_heads(self):
        for text, part in (
            ("in a b c d e\nout a\n", "in"), ("in a a\nout a\n", "in"), ("in a\nout b\n", "out"),
            ("in a\nout a a a a a\n", "out"),
            ("proc f x y z u\ngive x\nin a\nout a\n", 0), ("proc f x x\ngive x\nin a\nout a\n", 0),
            ("proc f x\ngive y\nin a\nout a\n", 0), ("proc f x\ngive x\nproc f x\ngive x\nin a\nout a\n", 1),
            ("proc f x\ngive x\nin f\nout f\n", "in"), ("proc f x\ngive x\n" * 4 + "in a\nout a\n", 3),
            ("proc f x\ngive f\nin a\nout a\n", 0), ("proc f x\ngive x\nin a\nout f\n", "out"),
        ):
            fails(self, InvalidHead, {"part": part}, read_program, text)

    def test_steps(self):
        for line in (
            "t = a + x", "t = x + a", "a = a + b", "t = x * a", "t = 3 * x", "t = 1/1000", "t = 1/1000 * a",
            "t = 1/" + "9" * 30, "t = g(a)", "t = f(a, b)", "t = f(a, b, a, b, a)", "t = f(x)", "f = a + b", "t = a(b)",
        ):
            text = "proc f x\ngive x\nin a b\nc = a + b\n" + line + "\nout a\n"
            fails(self, InvalidStep, {"procedure": None, "at": 1}, read_program, text)
            text = "proc f x\ngive x\nproc h a b\nc = a + b\n" + line + "\ngive a\nin a\nout a\n"
            fails(self, InvalidStep, {"procedure": 1, "at": 1}, read_program, text)

    def test_too_much(self):
        lines = "".join(name + " = a * a\n" for name in letters(241))
        fails(self, InvalidStep, {"procedure": None, "at": 240}, read_program, "in a\n" + lines + "out a\n")
        inner = "".join("y" + letter + " = x + x\n" for letter in "abcdefghijklm")
        fails(self, InvalidStep, {"procedure": 0, "at": 12}, read_program,
              "proc f x\n" + inner + "give x\nin a\nout a\n")
        calls = "".join(name + " = f(a)\n" for name in letters(21))
        twelve = "proc f x\n" + "".join(line + "\n" for line in inner.split("\n")[:12]) + "give x\n"
        fails(self, TooMany, {"most": 240}, read_program, twelve + "in a\n" + calls + "out a\n")
        fails(self, DegreeTooHigh, {"at": 1}, read_program, "in a\nb = a * a\nc = a * b\nout a\n")

    def test_texts_go_ahead_of_programs(self):
        fails(self, InvalidText, {"line": 2}, read_program, "in a a a a a a\nb = x + y\nwrong\nout z\n")
        fails(self, InvalidText, {"line": 3}, read_program, "in a a a a a a\nb = x + y\nout z\nout z\n")
        fails(self, InvalidText, {"line": 2}, read_program, "in a a a a a a\nb = x + y\nout z")

    def test_long_numbers(self):
        text = "in a\nb = " + str(LONG) + "/999 * a\nout b\n"
        self.assertEqual(read_program(text).steps, (("share", "b", LONG, 999, "a"),))


if __name__ == "__main__":
    unittest.main()
