"""Forms, programs and wishes that are drawn, always the same ones for the same seed."""

from itertools import product
from random import Random

from numbertypes.forms import Form
from numbertypes.programs import Program
from numbertypes.wishes import Wish

NAMES = ["a", "b", "c", "d"]


def all_words(names):
    """All words of degree 0 to 2 in these names."""
    return [word for size in range(3) for word in product(names, repeat=size)]


class Drawer:
    def __init__(self, seed):
        self.random = Random(seed)

    def form(self, names, divisors=(1,), most=4, great=9):
        words = all_words(names)
        many = self.random.randint(0, most)
        return Form([
            (self.random.choice(words), self.random.randint(-great, great), self.random.choice(divisors))
            for _ in range(many)
        ])

    def step(self, target, known, divisors, procedures):
        kind = self.random.choice(["add", "subtract", "multiply", "multiply", "share", "constant", "call"])
        one, other = self.random.choice(known), self.random.choice(known)
        if kind == "share":
            return (kind, target, self.random.randint(-4, 4), self.random.choice(divisors), one)
        if kind == "constant":
            return (kind, target, self.random.randint(-4, 4), self.random.choice(divisors))
        if kind == "call":
            if not procedures:
                return ("add", target, one, other)
            name, given, _, _ = self.random.choice(procedures)
            return (kind, target, name, tuple(self.random.choice(known) for _ in given))
        return (kind, target, one, other)

    def steps(self, known, count, letter, divisors, procedures):
        known = list(known)
        found = []
        for at in range(count):
            target = letter + chr(ord("a") + at)
            found.append(self.step(target, known, divisors, procedures))
            known.append(target)
        return found, known

    def program(self, inputs, divisors=(1,), most=6):
        """A program whose degrees are not too high."""
        while True:
            procedures = []
            for at in range(self.random.randint(0, 2)):
                given = ["x", "y", "z"][: self.random.randint(1, 3)]
                steps, known = self.steps(given, self.random.randint(0, 3), "r" + chr(ord("a") + at), divisors,
                                          procedures)
                procedures.append(("f" + chr(ord("a") + at), given, steps, self.random.choice(known)))
            steps, known = self.steps(inputs, self.random.randint(0, most), "t", divisors, procedures)
            outputs = [self.random.choice(known[-3:]) for _ in range(self.random.randint(1, 3))]
            try:
                return Program(inputs, steps, outputs, procedures=procedures)
            except ValueError:
                continue

    def wish_for(self, program):
        """A wish that is often near to what the program computes."""
        forms = []
        for form in program.forms():
            near = form.scaled(form.divisor)
            if self.random.random() < 0.8:
                near = near + self.form(list(program.inputs), most=3, great=6)
            forms.append(near)
        return Wish(*forms)
