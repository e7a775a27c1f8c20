"""Shelves: their commands, promises and steps, and the realms that they keep."""

import copy
import unittest
from random import Random

from numbertypes.errors import (
    Broken,
    DegreeTooHigh,
    DuplicateName,
    Full,
    InUse,
    InvalidCommand,
    InvalidHead,
    InvalidName,
    InvalidNumber,
    InvalidStep,
    InvalidText,
    NothingLeft,
    NotWhole,
    UnknownName,
    UnknownNumber,
    WrongCount,
)
from numbertypes.fits import realm_of
from numbertypes.programtexts import read_program
from numbertypes.realms import Realm
from numbertypes.rings import Rests, Sets
from numbertypes.ringtexts import read_ring
from numbertypes.shelves import Shelf
from numbertypes.wishes import Wish
from samples import ANY_VALUES, fails, same
from test_fits import is_right
from test_forms import names_of_methods

SQUARE = "in x\ny = x * x\nout y\n"
SWAP = "in x y\np = x * y\nq = y * x\nr = p - q\nout r\n"
HALF = "in x\ny = 1/2 * x\nz = y + y\nout z\n"
PROGRAMS = [SQUARE, SWAP, HALF, "in x\nout x\n", "in x y\nout x y\n", "in x\ny = 2 * x\nout y\n",
            "in x\ny = x * x\nz = y * x\nout z\n", "in x\nout y\n", "in x\nout x", "", None, 5]
WISHES = ["x\n", "0\n", "x*x + 6\n", "x\ny\n", "x + 2*y - 2*y\n", "2*x\n", "1/2*x\n", "x*x\n", "x", "", True, (1,)]
RING_TEXTS = ["rests(2)", "rests(3)", "rests(6)", "sets(2)", "matrices(2, rests(2))", "whole(1)", "fractions",
              "rests(1)", "whole", "", None, "rests(2)\n"]
TEXTS = {"program": PROGRAMS, "wish": WISHES, "ring": RING_TEXTS}
READERS = {"program": read_program, "wish": Wish.read, "ring": read_ring}
NAMES = ["a", "b", "c", "d"]
WRONG_NAMES = [value for value in ANY_VALUES if value != "a"] + ["abcdefg", "A", "a b", "out", "give"]


def stocked(limit=12):
    shelf = Shelf(limit=limit)
    shelf.apply(("program", "sq", SQUARE), ("wish", "same", "x\n"), ("ring", "bits", "sets(2)"),
                ("ring", "six", "rests(6)"), ("wish", "plus", "x*x + 6\n"))
    return shelf


def state_of(shelf):
    return (
        [(name, shelf.item(name)) for name in shelf.names()], shelf.promises(), shelf.history(), shelf.kept(),
        shelf.computed, shelf.limit, shelf.busy, len(shelf), repr(shelf),
    )


class Model:
    """A shelf as the document tells it, with whole copies of its state for each step."""

    def __init__(self, limit):
        self.limit = limit
        self.now = {"named": {}, "promises": {}, "free": 1}
        self.done, self.undone = [], []
        self.kept, self.computed = {}, 0

    def holds(self, state, promise):
        program, wish, ring = [state["named"][name][1] for name in promise]
        if len(wish) != len(program.outputs):
            return False
        if any(name not in program.inputs for form in wish.forms() for name in form.names()):
            return False
        return ring in realm_of(program, wish)

    def command(self, state, word, *given):
        named, promises = state["named"], state["promises"]
        if word in TEXTS:
            name, text = given
            if not isinstance(name, str) or not 1 <= len(name) <= 6 or not name.islower() or name in ("in", "out"):
                return ("InvalidName", name)
            if name in named and named[name][0] != word:
                return ("DuplicateName", name)
            if name not in named and len(named) >= self.limit:
                return ("Full", self.limit)
            try:
                item = READERS[word](text)
            except ValueError as error:
                return (error.code, None)
            named[name] = (word, item)
            broken = [number for number,
                      promise in promises.items() if name in promise and not self.holds(state, promise)]
            return ("Broken", min(broken)) if broken else None
        if word == "drop":
            name = given[0]
            if not isinstance(name, str) or name not in named:
                return ("UnknownName", name)
            using = [number for number, promise in promises.items() if name in promise]
            if using:
                return ("InUse", min(using))
            del named[name]
        elif word == "promise":
            for kind, name in zip(TEXTS, given):
                if not isinstance(name, str) or name not in named or named[name][0] != kind:
                    return ("UnknownName", name)
            if not self.holds(state, given):
                return ("Broken", 0)
            if len(promises) == 8:
                return ("Full", 8)
            promises[state["free"]] = given
            state["free"] += 1
        else:
            if type(given[0]) is not int or given[0] not in promises:
                return ("UnknownNumber", given[0])
            del promises[given[0]]
        return None

    def apply(self, *commands):
        state = copy.copy(self.now)
        state["named"], state["promises"] = dict(state["named"]), dict(state["promises"])
        for command in commands:
            error = self.command(state, *command)
            if error is not None:
                return error
        self.done.append(self.now)
        self.undone = []
        self.become(state)
        return None

    def step(self, one, other):
        if not one:
            return ("NothingLeft", None)
        other.append(self.now)
        self.become(one.pop())
        return None

    def become(self, state):
        before, self.now = self.now, state
        for pair in list(self.kept):
            if any(name not in state["named"] or state["named"][name] != before["named"][name] for name in pair):
                del self.kept[pair]

    def realm_for(self, program, wish):
        for kind, name in (("program", program), ("wish", wish)):
            if name not in self.now["named"] or self.now["named"][name][0] != kind:
                return ("UnknownName", name)
        if (program, wish) not in self.kept:
            try:
                realm = realm_of(self.now["named"][program][1], self.now["named"][wish][1])
            except (ValueError, LookupError) as error:
                return (error.code, None)
            self.kept[program, wish] = realm
            self.computed += 1
        return self.kept[program, wish]


def told_error(call, *given):
    """The code and the first attribute of the error that a call raises, or what it returns."""
    try:
        return call(*given)
    except (ValueError, LookupError) as error:
        values = [value for name, value in sorted(vars(error).items()) if name != "code"]
        return (error.code,
                None if error.code in ("InvalidText", "NothingLeft", "WrongCount", "NotWhole", "InvalidHead",
                                                   "DegreeTooHigh") else values[0])


class ModelTest(unittest.TestCase):
    def drawn_command(self, random):
        word = random.choice(["program", "program", "wish", "wish", "ring", "ring", "drop", "promise", "promise",
                              "promise", "release"])
        names = NAMES if random.random() < 0.95 else ["A", None, 3, "in", ["a"]]
        usual = {"program": "a", "wish": "b", "ring": "c"}
        if word in TEXTS and random.random() < 0.6:
            return (word, usual[word], random.choice(TEXTS[word][:5]))
        if word == "promise" and random.random() < 0.7:
            return (word, *usual.values())
        if word in TEXTS:
            texts = TEXTS[word]
            return (word, random.choice(names), random.choice(texts[:6] if random.random() < 0.8 else texts))
        if word == "drop":
            return (word, random.choice(names))
        if word == "promise":
            return (word, *[random.choice(names) for _ in range(3)])
        return (word, random.choice([1, 2, 3, 4, 5, 6, 9, 0, True, "1", None]))

    def compare(self, shelf, model):
        named = model.now["named"]
        self.assertEqual(shelf.names(), sorted(named))
        for kind in TEXTS:
            self.assertEqual(shelf.names(kind=kind), sorted(name for name in named if named[name][0] == kind))
        for name in named:
            self.assertEqual(shelf.item(name), named[name][1])
        self.assertTrue(same(shelf.promises(), sorted(model.now["promises"].items())))
        self.assertEqual(shelf.history(), (len(model.done), len(model.undone)))
        self.assertEqual(shelf.kept(), sorted(model.kept))
        self.assertEqual(shelf.computed, model.computed)
        self.assertIs(shelf.busy, False)
        self.assertEqual(repr(shelf), f"Shelf({len(named)} names, {len(model.now['promises'])} promises)")

    def test_drawn_commands(self):
        random = Random(1)
        codes = {}
        for _ in range(400):
            limit = random.choice([2, 3, 4, 12])
            shelf, model = Shelf(limit=limit), Model(limit)
            for _ in range(60):
                chance = random.random()
                if chance < 0.1:
                    found, expected = told_error(shelf.undo), model.step(model.done, model.undone)
                elif chance < 0.2:
                    found, expected = told_error(shelf.redo), model.step(model.undone, model.done)
                elif chance < 0.5:
                    pair = (random.choice(NAMES), random.choice(NAMES))
                    found, expected = told_error(shelf.realm_for, *pair), model.realm_for(*pair)
                else:
                    commands = [self.drawn_command(random) for _ in range(random.choice([0, 1, 1, 1, 2, 3]))]
                    found, expected = told_error(shelf.apply, *commands), model.apply(*commands)
                self.assertEqual(found, expected)
                if isinstance(found, tuple):
                    codes[found[0]] = codes.get(found[0], 0) + 1
                self.compare(shelf, model)
        self.assertLessEqual(
            {"InvalidName", "DuplicateName", "Full", "InvalidText", "Broken", "UnknownName", "InUse", "UnknownNumber",
             "NothingLeft", "WrongCount", "DegreeTooHigh", "InvalidHead", "NotWhole"},
            set(codes),
        )
        self.assertGreater(min(codes.values()), 4, codes)


class CommandsTest(unittest.TestCase):
    def refuse(self, shelf, error, attributes, *commands):
        """Checks that a call of apply is refused and changes nothing, also behind other commands."""
        before = state_of(shelf)
        fails(self, error, attributes, shelf.apply, *commands)
        self.assertEqual(state_of(shelf), before)

    def test_wrong_forms(self):
        shelf = stocked()
        right = ("wish", "w", "0\n")
        for value in ANY_VALUES + [
            list(right), right[:2], right + ("x",), ("put", "a", "b"), ("drop",), ("drop", "a", "b"),
            ("promise", "a", "b"),
            ("promise", "a", "b", "c", "d"), ("release",), ("release", 1, 2), ("Ring", "a", "b"), (["ring"], "a", "b"),
            (None, "a", "b"), (("ring",), "a", "b"), ("undo",), "ring",
        ]:
            self.refuse(shelf, InvalidCommand, {"at": 0}, value)
            self.refuse(shelf, InvalidCommand, {"at": 2}, right, ("drop", None), value, None)

    def test_wrong_forms_go_first(self):
        self.refuse(stocked(), InvalidCommand, {"at": 3}, ("drop", "zz"), ("ring", 5, 6), ("release", 0), ("drop",), 0)

    def test_names_of_items(self):
        shelf = stocked(limit=5)
        for kind in TEXTS:
            for value in WRONG_NAMES:
                self.refuse(shelf, InvalidName, {"given": value}, (kind, value, None))
        for kind, name in (("wish", "sq"), ("ring", "sq"), ("program", "same"), ("ring", "plus"), ("wish", "bits"),
                           ("program", "six")):
            self.refuse(shelf, DuplicateName, {"name": name}, (kind, name, None))

    def test_full(self):
        for limit in (5, 6, 20):
            shelf = stocked(limit)
            names = ["w" + letter for letter in "abcdefghijklmnopqrstuvwxyz"][: limit - 5]
            shelf.apply(*[("wish", name, "0\n") for name in names])
            self.assertEqual(len(shelf), limit)
            self.refuse(shelf, Full, {"most": limit}, ("wish", "new", None))
            self.refuse(shelf, Full, {"most": limit}, ("ring", "new", "rests(2)"))
            shelf.apply(("wish", "same", "x + 0\n"), ("drop", "plus"), ("ring", "plus", "rests(9)"))
            self.refuse(shelf, Full, {"most": limit}, ("wish", "same", "x\n"), ("wish", "new", "x\n"))
            self.assertEqual(len(shelf), limit)

    def test_errors_of_reading(self):
        shelf = stocked()
        for kind, text, error, attributes in (
            ("program", "in x\nout x", InvalidText, {"line": 1}), ("program", "", InvalidText, {"line": 0}),
            ("program", "in x\nout y\n", InvalidHead, {"part": "out"}),
            ("program", "in x\ny = z\nout x\n", InvalidText, {"line": 1}),
            ("program", "in x\ny = x + z\nout x\n", InvalidStep, {"procedure": None, "at": 0}),
            ("program", "in x\ny = x * x\nz = y * x\nout x\n", DegreeTooHigh, {"at": 1}),
            ("wish", "0\nx +\n", InvalidText, {"line": 1}), ("wish", "0\n" * 5, WrongCount, {"given": 5}),
            ("wish", "x\n1/2\n", NotWhole, {"at": 1}), ("wish", "x", InvalidText, {"line": 0}),
            ("ring", "rests(1)", InvalidText, {"line": 0}), ("ring", "rests(2)\n", InvalidText, {"line": 0}),
        ):
            self.refuse(shelf, error, attributes, (kind, "new", text))
            self.refuse(shelf, error, attributes, ("drop", "six"), (kind, "six" if kind == "ring" else "new", text))
        for kind in TEXTS:
            for value in ANY_VALUES:
                if not isinstance(value, str):
                    self.refuse(shelf, InvalidText, {"line": 0}, (kind, "new", value))

    def test_broken_promises(self):
        shelf = stocked()
        shelf.apply(("promise", "sq", "same", "bits"), ("promise", "sq", "plus", "six"),
                    ("promise", "sq", "same", "bits"))
        for command, number in (
            (("program", "sq", "in x\ny = x + x\nout y\n"), 1), (("program", "sq", "in x\nout x\n"), 2),
            (("program", "sq", "in y\nz = y * y\nout z\n"), 1), (("program", "sq", "in x\ny = x * x\nout y y\n"), 1),
            (("wish", "same", "x + 1\n"), 1), (("wish", "same", "y\n"), 1), (("wish", "same", "x\nx\n"), 1),
            (("wish", "plus", "x*x + 4\n"), 2), (("wish", "plus", "x*x + 6*y\n"), 2),
            (("ring", "bits", "rests(3)"), 1), (("ring", "six", "rests(4)"), 2),
        ):
            self.refuse(shelf, Broken, {"number": number}, command)
        shelf.apply(("release", 1))
        self.refuse(shelf, Broken, {"number": 3}, ("wish", "same", "x + 1\n"))
        shelf.apply(("release", 3), ("wish", "same", "x + 1\n"), ("program", "sq", "in x y\nz = x * x\nout z\n"),
                    ("ring", "six", "rests(3)"), ("wish", "plus", "x*x - 3*x*y\n"))
        self.assertEqual(shelf.promises(), [(2, ("sq", "plus", "six"))])

    def test_broken_by_runs(self):
        random = Random(2)
        rings = [text for text in RING_TEXTS[:5]]
        counts = [0, 0]
        for _ in range(150):
            shelf = Shelf()
            texts = {"program": random.choice(PROGRAMS[:6]), "wish": random.choice(WISHES[:6]),
                     "ring": random.choice(rings)}
            shelf.apply(*[(kind, kind[:1], text) for kind, text in texts.items()])
            items = [shelf.item(name) for name in ("p", "w", "r")]
            fit = len(items[1]) == len(items[0].outputs) and all(
                name in items[0].inputs for form in items[1].forms() for name in form.names())
            if not fit or not is_right(*items):
                self.refuse(shelf, Broken, {"number": 0}, ("promise", "p", "w", "r"))
                counts[0] += 1
                continue
            shelf.apply(("promise", "p", "w", "r"))
            for kind in TEXTS:
                text = random.choice(rings if kind == "ring" else TEXTS[kind][:6])
                others = dict(zip(TEXTS, items))
                others[kind] = READERS[kind](text)
                program, wish, ring = others.values()
                fit = len(wish) == len(program.outputs) and all(
                    name in program.inputs for form in wish.forms() for name in form.names())
                if fit and is_right(program, wish, ring):
                    shelf.twin().apply((kind, kind[:1], text))
                    counts[1] += 1
                else:
                    self.refuse(shelf, Broken, {"number": 1}, (kind, kind[:1], text))
        self.assertGreater(min(counts), 30)

    def test_drop(self):
        shelf = stocked()
        for value in WRONG_NAMES + ["a", "new"]:
            self.refuse(shelf, UnknownName, {"name": value}, ("drop", value))
        shelf.apply(("promise", "sq", "plus", "six"), ("promise", "sq", "same", "bits"))
        for name, number in (("sq", 1), ("plus", 1), ("six", 1), ("same", 2), ("bits", 2)):
            self.refuse(shelf, InUse, {"number": number}, ("drop", name))
        shelf.apply(("release", 1), ("drop", "six"), ("drop", "plus"))
        self.assertEqual(shelf.names(), ["bits", "same", "sq"])

    def test_promise(self):
        shelf = stocked()
        for value in WRONG_NAMES + ["a", "new", "sq", "same", "six"]:
            if value != "sq":
                self.refuse(shelf, UnknownName, {"name": value}, ("promise", value, "zz", None))
            if value != "same":
                self.refuse(shelf, UnknownName, {"name": value}, ("promise", "sq", value, None))
            if value != "six":
                self.refuse(shelf, UnknownName, {"name": value}, ("promise", "sq", "same", value))
        shelf.apply(("wish", "two", "x\nx\n"), ("wish", "far", "x + y\n"))
        for names in (("sq", "same", "six"), ("sq", "two", "bits"), ("sq", "far", "bits"), ("sq", "plus", "bits")):
            if names == ("sq", "plus", "bits"):
                shelf.apply(("wish", "plus", "x*x + 3\n"))
            self.refuse(shelf, Broken, {"number": 0}, ("promise", *names))
        shelf.apply(*[("promise", "sq", "same", "bits")] * 8)
        self.refuse(shelf, Broken, {"number": 0}, ("promise", "sq", "same", "six"))
        self.refuse(shelf, Full, {"most": 8}, ("promise", "sq", "same", "bits"))
        self.assertTrue(same(shelf.promises(), [(k, ("sq", "same", "bits")) for k in range(1, 9)]))
        shelf.apply(("release", 5), ("promise", "sq", "same", "bits"))
        self.assertEqual([number for number, _ in shelf.promises()], [1, 2, 3, 4, 6, 7, 8, 9])

    def test_release(self):
        shelf = stocked()
        self.refuse(shelf, UnknownNumber, {"number": 1}, ("release", 1))
        shelf.apply(("promise", "sq", "same", "bits"), ("promise", "sq", "same", "bits"))
        for value in ANY_VALUES:
            if not same(value, 1) and not same(value, 2):
                self.refuse(shelf, UnknownNumber, {"number": value}, ("release", value))
        shelf.apply(("release", 2))
        self.refuse(shelf, UnknownNumber, {"number": 2}, ("release", 2))

    def test_numbers_of_promises(self):
        shelf = stocked()
        promise = ("promise", "sq", "same", "bits")
        shelf.apply(promise, ("release", 1), promise)
        self.assertEqual([number for number, _ in shelf.promises()], [2])
        self.refuse(shelf, UnknownNumber, {"number": 9}, promise, promise, ("release", 9))
        shelf.apply(promise)
        self.assertEqual([number for number, _ in shelf.promises()], [2, 3])
        shelf.apply(("release", 3))
        shelf.apply(promise)
        self.assertEqual([number for number, _ in shelf.promises()], [2, 4])
        shelf.undo()
        shelf.undo()
        shelf.undo()
        shelf.apply(promise, promise)
        self.assertEqual([number for number, _ in shelf.promises()], [2, 3, 4])

    def test_all_or_nothing(self):
        shelf = stocked()
        self.refuse(shelf, UnknownName, {"name": "gone"}, ("ring", "new", "rests(2)"), ("wish", "same", "0\n"),
                    ("drop", "six"), ("drop", "gone"))
        shelf.apply(("drop", "six"), ("wish", "six", "x\n"), ("promise", "sq", "six", "bits"))
        self.assertEqual(shelf.item("six"), Wish.read("x\n"))
        self.refuse(shelf, InUse, {"number": 1}, ("wish", "six", "x + 0\n"), ("drop", "six"))

    def test_items(self):
        shelf = stocked()
        self.assertEqual(shelf.item("sq"), read_program(SQUARE))
        self.assertEqual(shelf.item("same"), Wish.read("x\n"))
        self.assertEqual(shelf.item(name="bits"), Sets(2))
        shelf.apply(("ring", "bits", "rests(7)"))
        self.assertEqual(shelf.item("bits"), Rests(7))
        for value in WRONG_NAMES + ["a", "new"]:
            fails(self, UnknownName, {"name": value}, shelf.item, value)
            self.assertIs(value in shelf, False)
            self.assertIs(value not in shelf, True)
        for name in shelf.names():
            self.assertIs(name in shelf, True)

    def test_names(self):
        shelf = stocked()
        self.assertEqual(shelf.names(), ["bits", "plus", "same", "six", "sq"])
        self.assertEqual(shelf.names(kind=None), shelf.names())
        self.assertEqual(shelf.names(kind="program"), ["sq"])
        self.assertEqual(shelf.names(kind="wish"), ["plus", "same"])
        self.assertEqual(shelf.names(kind="ring"), ["bits", "six"])
        for kind in ("", "programs", "sq", "Ring", "promise", "in"):
            self.assertEqual(shelf.names(kind=kind), [])
        with self.assertRaises(TypeError):
            shelf.names("ring")
        shelf.names().append("x")
        shelf.promises().append("x")
        shelf.kept().append("x")
        self.assertEqual((len(shelf.names()), shelf.promises(), shelf.kept()), (5, [], []))


class LimitTest(unittest.TestCase):
    def test_limits(self):
        self.assertTrue(same((Shelf().limit, Shelf.MOST, Shelf(limit=1).limit, Shelf(limit=20).limit), (12, 20, 1, 20)))
        with self.assertRaises(TypeError):
            Shelf(5)
        for value in ANY_VALUES + [21]:
            if type(value) is not int or not 1 <= value <= 20:
                fails(self, InvalidNumber, {"given": value}, Shelf, limit=value)
                for shelf in (Shelf(), stocked()):
                    fails(self, InvalidNumber, {"given": value}, shelf.set_limit, value)
                    fails(self, InvalidNumber, {"given": value}, setattr, shelf, "limit", value)
                    self.assertEqual(shelf.limit, 12)

    def test_not_less_than_the_names(self):
        shelf = stocked()
        for value in (1, 4):
            fails(self, InvalidNumber, {"given": value}, shelf.set_limit, value)
            fails(self, InvalidNumber, {"given": value}, setattr, shelf, "limit", value)
        self.assertIsNone(shelf.set_limit(5))
        self.assertEqual(shelf.limit, 5)
        shelf.limit = 6
        self.assertEqual(shelf.limit, 6)
        shelf.set_limit(value=20)
        self.assertEqual(shelf.limit, 20)
        self.assertEqual(Shelf(limit=12).set_limit(1), None)

    def test_no_part_of_the_steps(self):
        shelf = stocked()
        shelf.apply(("drop", "six"), ("drop", "bits"))
        shelf.limit = 3
        self.assertEqual(shelf.history(), (2, 0))
        shelf.undo()
        self.assertEqual((len(shelf), shelf.limit), (5, 3))
        fails(self, Full, {"most": 3}, shelf.apply, ("wish", "new", "0\n"))
        fails(self, InvalidNumber, {"given": 4}, shelf.set_limit, 4)
        fails(self, InvalidNumber, {"given": 3}, shelf.set_limit, 3)
        shelf.undo()
        self.assertEqual((len(shelf), shelf.limit), (0, 3))
        shelf.redo()
        shelf.apply(("wish", "same", "5\n"))
        self.assertEqual((len(shelf), shelf.limit), (5, 3))


class StepsTest(unittest.TestCase):
    def test_undo_and_redo(self):
        shelf = Shelf()
        fails(self, NothingLeft, {}, shelf.undo)
        fails(self, NothingLeft, {}, shelf.redo)
        self.assertIsNone(shelf.apply())
        self.assertEqual(shelf.history(), (1, 0))
        self.assertIsNone(shelf.apply(("ring", "r", "rests(2)"), ("wish", "w", "0\n")))
        shelf.apply(("drop", "r"))
        self.assertEqual((shelf.history(), shelf.names()), ((3, 0), ["w"]))
        self.assertIsNone(shelf.undo())
        self.assertEqual((shelf.history(), shelf.names()), ((2, 1), ["r", "w"]))
        shelf.undo()
        self.assertEqual((shelf.history(), shelf.names()), ((1, 2), []))
        shelf.undo()
        fails(self, NothingLeft, {}, shelf.undo)
        for names in ([], ["r", "w"], ["w"]):
            self.assertIsNone(shelf.redo())
            self.assertEqual(shelf.names(), names)
        fails(self, NothingLeft, {}, shelf.redo)
        shelf.undo()
        fails(self, UnknownName, {"name": "x"}, shelf.apply, ("drop", "x"))
        fails(self, InvalidCommand, {"at": 0}, shelf.apply, ())
        self.assertEqual(shelf.history(), (2, 1))
        shelf.apply()
        self.assertEqual(shelf.history(), (3, 0))
        fails(self, NothingLeft, {}, shelf.redo)

    def test_promises_are_part_of_the_steps(self):
        shelf = stocked()
        shelf.apply(("promise", "sq", "same", "bits"))
        shelf.apply(("release", 1), ("drop", "bits"))
        shelf.undo()
        self.assertEqual(shelf.promises(), [(1, ("sq", "same", "bits"))])
        fails(self, InUse, {"number": 1}, shelf.apply, ("drop", "bits"))
        shelf.undo()
        shelf.apply(("drop", "bits"))
        self.assertEqual(shelf.promises(), [])

    def test_busy(self):
        shelf = stocked()
        self.assertIs(shelf.busy, False)
        for commands in ((), (("drop", "zz"),), (("drop",),), (("ring", "six", "rests(5)"),), (5,)):
            try:
                shelf.apply(*commands)
            except (ValueError, LookupError):
                pass
            self.assertIs(shelf.busy, False)
        for call in (shelf.undo, shelf.redo, shelf.redo):
            try:
                call()
            except NothingLeft:
                pass
            self.assertIs(shelf.busy, False)
        for name in ("busy", "computed"):
            with self.assertRaises(AttributeError):
                setattr(shelf, name, 1)


class RealmsTest(unittest.TestCase):
    def test_kept_realms(self):
        shelf = stocked()
        self.assertEqual((shelf.computed, shelf.kept()), (0, []))
        self.assertEqual(shelf.realm_for("sq", "same"), Realm(squares=1))
        self.assertEqual(shelf.realm_for("sq", "same"), Realm(squares=1))
        self.assertIs(shelf.fits("sq", "same", "bits"), True)
        self.assertIs(shelf.fits("sq", "same", "six"), False)
        self.assertTrue(same((shelf.computed, shelf.kept()), (1, [("sq", "same")])))
        self.assertIs(shelf.fits(ring="six", wish="plus", program="sq"), True)
        self.assertEqual((shelf.computed, shelf.kept()), (2, [("sq", "plus"), ("sq", "same")]))
        self.assertEqual(shelf.realm_for(wish="plus", program="sq"), Realm(ones=6))

    def test_steps(self):
        shelf = stocked()
        shelf.realm_for("sq", "same")
        shelf.realm_for("sq", "plus")
        for commands, kept in (
            ((), ["plus", "same"]), ((("ring", "six", "rests(5)"),), ["plus", "same"]),
            ((("program", "sq", SQUARE),), ["plus", "same"]), ((("wish", "same", "x - 0\n"),), ["plus", "same"]),
            ((("drop", "sq"), ("program", "sq", SQUARE)), ["plus", "same"]),
            ((("wish", "same", "0\n"), ("wish", "same", "x\n")), ["plus", "same"]),
            ((("drop", "sq"),), []), ((("program", "sq", HALF),), []), ((("wish", "same", "2*x\n"),), ["plus"]),
            ((("drop", "plus"),), ["same"]), ((("drop", "plus"), ("ring", "plus", "rests(2)")), ["same"]),
            ((("program", "sq", "in x\nz = x * x\nout z\n"),), []),
        ):
            other = shelf.twin()
            other.apply(*commands)
            self.assertEqual((other.kept(), other.computed), ([("sq", name) for name in kept], 2), commands)
            other.undo()
            self.assertEqual((other.kept(), other.computed), ([("sq", name) for name in kept], 2), commands)
            other.realm_for("sq", "same")
            self.assertEqual(other.computed, 2 + ("same" not in kept))

    def test_undo_and_redo(self):
        shelf = stocked()
        shelf.apply(("wish", "same", "0\n"))
        self.assertEqual(shelf.realm_for("sq", "same"), Realm(ones=1))
        shelf.undo()
        self.assertEqual(shelf.kept(), [])
        self.assertEqual(shelf.realm_for("sq", "same"), Realm(squares=1))
        shelf.redo()
        self.assertEqual((shelf.kept(), shelf.computed), ([], 2))
        self.assertEqual(shelf.realm_for("sq", "same"), Realm(ones=1))
        shelf.apply(("wish", "same", "0\n"))
        shelf.undo()
        self.assertEqual((shelf.kept(), shelf.computed), ([("sq", "same")], 3))
        shelf.undo()
        shelf.undo()
        self.assertEqual((shelf.kept(), shelf.computed, len(shelf)), ([], 3, 0))

    def test_a_refused_step_forgets_nothing(self):
        shelf = stocked()
        shelf.realm_for("sq", "same")
        fails(self, UnknownName, {"name": "x"}, shelf.apply, ("drop", "sq"), ("drop", "x"))
        fails(self, NothingLeft, {}, shelf.redo)
        self.assertEqual(shelf.kept(), [("sq", "same")])

    def test_promises_count_nothing(self):
        shelf = stocked()
        shelf.apply(("promise", "sq", "same", "bits"), ("ring", "bits", "sets(3)"))
        self.assertEqual((shelf.computed, shelf.kept()), (0, []))

    def test_errors(self):
        shelf = stocked()
        for value in WRONG_NAMES + ["a", "new", "sq", "same", "six"]:
            for call in (shelf.realm_for, lambda program, wish: shelf.fits(program, wish, None)):
                if value != "sq":
                    fails(self, UnknownName, {"name": value}, call, value, "zz")
                if value != "same":
                    fails(self, UnknownName, {"name": value}, call, "sq", value)
            if value != "six":
                fails(self, UnknownName, {"name": value}, shelf.fits, "sq", "same", value)
        shelf.apply(("wish", "two", "x\nx\n"), ("wish", "far", "x + y\n"))
        fails(self, UnknownName, {"name": "gone"}, shelf.fits, "sq", "two", "gone")
        for call in (shelf.realm_for, lambda program, wish: shelf.fits(program, wish, "six")):
            fails(self, WrongCount, {"given": 2}, call, "sq", "two")
            fails(self, UnknownName, {"name": "y"}, call, "sq", "far")
        self.assertEqual((shelf.computed, shelf.kept()), (0, []))


class TwinTest(unittest.TestCase):
    def test_same_state(self):
        shelf = stocked(limit=7)
        shelf.apply(("promise", "sq", "same", "bits"))
        shelf.apply(("wish", "new", "0\n"))
        shelf.realm_for("sq", "same")
        shelf.undo()
        twin = shelf.twin()
        self.assertIs(type(twin), Shelf)
        self.assertEqual(twin, shelf)
        self.assertEqual(state_of(twin), state_of(shelf))
        before = state_of(shelf)
        twin.redo()
        twin.limit = 20
        twin.realm_for("sq", "plus")
        twin.apply(("release", 1), ("drop", "bits"))
        self.assertEqual(state_of(shelf), before)
        self.assertEqual(twin.history(), (4, 0))
        other = shelf.twin()
        shelf.undo()
        shelf.undo()
        shelf.apply(("wish", "same", "x\n"))
        shelf.limit = 1
        self.assertEqual(state_of(other), before)

    def test_more_names_than_the_limit(self):
        shelf = stocked()
        shelf.apply(("drop", "six"), ("drop", "bits"))
        shelf.limit = 3
        shelf.undo()
        twin = shelf.twin()
        self.assertEqual(state_of(twin), state_of(shelf))
        self.assertEqual((twin.limit, len(twin)), (3, 5))

    def test_numbers_go_on(self):
        shelf = stocked()
        shelf.apply(("promise", "sq", "same", "bits"), ("release", 1))
        twin = shelf.twin()
        twin.apply(("promise", "sq", "same", "bits"))
        self.assertEqual(twin.promises(), [(2, ("sq", "same", "bits"))])

    def test_equality(self):
        one, other = stocked(), stocked(limit=9)
        self.assertIs(one == other, True)
        other.apply()
        other.realm_for("sq", "same")
        self.assertIs(one == other, True)
        self.assertIs(one != other, False)
        other.apply(("ring", "six", "rests(5)"))
        self.assertIs(one == other, False)
        other.undo()
        other.apply(("promise", "sq", "same", "bits"))
        self.assertIs(one == other, False)
        one.apply(("promise", "sq", "same", "bits"), ("promise", "sq", "same", "bits"), ("release", 1))
        self.assertIs(one == other, False)
        other.apply(("promise", "sq", "same", "bits"))
        other.apply(("release", 1))
        self.assertIs(one == other, True)
        one.apply(("drop", "six"), ("wish", "six", "x\n"))
        self.assertIs(one == other, False)
        one, other = Shelf(), Shelf()
        one.apply(("ring", "r", "rests(2)"))
        other.apply(("ring", "q", "rests(2)"))
        self.assertIs(one == other, False)
        for value in ANY_VALUES + [one.names(), repr(one), {}]:
            self.assertIs(one == value, False)

    def test_length_and_repr(self):
        shelf = Shelf()
        self.assertEqual((len(shelf), repr(shelf)), (0, "Shelf(0 names, 0 promises)"))
        shelf = stocked()
        shelf.apply(("promise", "sq", "same", "bits"))
        self.assertEqual((len(shelf), repr(shelf)), (5, "Shelf(5 names, 1 promises)"))
        self.assertLessEqual(
            {"limit", "set_limit", "apply", "undo", "redo", "history", "busy", "names", "item", "promises", "realm_for",
             "fits", "computed", "kept", "twin", "__init__", "__contains__", "__len__", "__eq__", "__repr__"},
            names_of_methods(Shelf),
        )


if __name__ == "__main__":
    unittest.main()
