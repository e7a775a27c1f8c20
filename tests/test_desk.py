"""Desks: their answers to all kinds of lines, and their logs."""

import unittest

from numbertypes.desk import Desk
from numbertypes.errors import NothingLeft
from numbertypes.forms import Form
from numbertypes.pages import read_page
from numbertypes.rings import Rests
from numbertypes.shelves import Shelf
from numbertypes.wishes import Wish
from samples import fails
from test_forms import names_of_methods
from test_shelves import HALF, SWAP, stocked


def desk():
    shelf = stocked(limit=9)
    shelf.apply(("program", "half", HALF), ("program", "swap", SWAP), ("wish", "zero", "0\n"))
    return Desk(shelf=shelf)


class AnswersTest(unittest.TestCase):
    def check(self, made, *pairs):
        for line, answer in pairs:
            self.assertEqual(made.say(line), answer, line)

    def test_realm(self):
        made = desk()
        made.shelf().apply(("wish", "one", "x*x + 1\n"), ("program", "half", HALF.replace("1/2", "3/14")))
        self.check(
            made, ("realm sq same", "1 2 1 1"), ("realm sq plus", "1 6 6 6"), ("realm swap zero", "1 0 1 0"),
            ("realm sq one", "nowhere"), ("realm half zero", "1 3 3 3"), ("realm half same", "nowhere"),
            ("realm same sq", "error UnknownName"), ("realm sq gone", "error UnknownName"),
            ("realm sq sq", "error UnknownName"), ("realm SQ same", "error UnknownName"),
            ("realm swap plus", "nowhere"), ("realm sq same", "1 2 1 1"),
        )
        self.assertEqual(made.shelf().computed, 7)
        made.shelf().apply(("wish", "zero", "0\n0\n"), ("wish", "same", "z\n"))
        self.check(made, ("realm sq zero", "error WrongCount"), ("realm sq same", "error UnknownName"))

    def test_great_realms(self):
        text = "in x\n" + "".join(f"{one} = {other} * {other}\n" for one,
                                  other in zip("bcdefghijklmno", "abcdefghijklmn"))
        made = Desk()
        made.shelf().apply(("program", "p", text.replace("in x\n", "in x\na = 7\n") + "out o\n"), ("wish", "w", "0\n"))
        digits = 7 ** (2**14)
        self.assertEqual(made("realm p w"), " ".join(["1"] + [Form([((), digits, 1)]).text()] * 3))

    def test_fits(self):
        made = desk()
        self.check(
            made, ("fits sq same bits", "yes"), ("fits sq same six", "no"), ("fits sq plus six", "yes"),
            ("fits sq same", "unknown"), ("fits sq same gone", "error UnknownName"),
            ("fits gone a b", "error UnknownName"),
            ("fits sq same zero", "error UnknownName"), ("fits sq same bits six", "unknown"),
        )
        self.assertEqual(made.shelf().kept(), [("sq", "plus"), ("sq", "same")])

    def test_verdict(self):
        made = desk()
        made.say("ring mats matrices(2, rests(3))")
        self.check(
            made, ("verdict sq same bits", "right"), ("verdict sq same six", "fails"),
            ("verdict half same six", "stops"),
            ("verdict half same mats", "right"), ("verdict swap zero mats", "fails"),
            ("verdict swap zero six", "right"),
            ("verdict sq same", "unknown"), ("verdict sq same same", "error UnknownName"),
            ("verdict same same same", "error UnknownName"), ("verdict sq gone bits", "error UnknownName"),
        )
        self.assertEqual(made.shelf().computed, 0)
        made.shelf().apply(("wish", "zero", "0\n0\n"), ("wish", "same", "z\n"))
        self.check(made, ("verdict sq zero bits", "error WrongCount"), ("verdict sq same bits", "error UnknownName"))

    def test_numbers(self):
        made = desk()
        self.check(
            made, ("ring q quaternions(rests(4))", "done"), ("numbers six", "6 1 3"), ("numbers bits", "2 1 1"),
            ("numbers q", "4 2 4"), ("numbers sq", "error UnknownName"), ("numbers gone", "error UnknownName"),
            ("numbers Q", "error UnknownName"), ("numbers", "unknown"), ("numbers q q", "unknown"),
        )

    def test_names(self):
        self.check(Desk(), ("names", "none"), ("names ", "unknown"), ("names a", "unknown"))
        self.check(desk(), ("names", "bits half plus same six sq swap zero"))

    def test_promises(self):
        made = desk()
        self.check(
            made, ("promise sq same bits", "done"), ("promise sq same six", "error Broken"),
            ("promise sq same", "unknown"), ("promise sq bits same", "error UnknownName"), ("drop sq", "error InUse"),
            ("ring bits rests(3)", "error Broken"), ("release 2", "error UnknownNumber"), ("release 1", "done"),
            ("release 1", "error UnknownNumber"), ("release 0", "error UnknownNumber"),
            ("release 999999", "error UnknownNumber"),
        )
        for word in ("1000000", "01", "00", "-1", "+1", "1.", "x", "1x", "", " 1", "1 ", "1 2", "one", "1_0"):
            self.check(made, ("release " + word, "unknown"))
        self.check(made, ("release", "unknown"), *[("promise sq same bits", "done")] * 8,
                   ("promise sq same bits", "error Full"))
        self.assertEqual([number for number, _ in made.shelf().promises()], list(range(2, 10)))

    def test_drop(self):
        made = desk()
        self.check(
            made, ("drop six", "done"), ("drop six", "error UnknownName"), ("drop", "unknown"), ("drop a b", "unknown"),
            ("drop IN", "error UnknownName"), ("drop 7", "error UnknownName"),
        )
        self.assertNotIn("six", made.shelf())

    def test_undo_and_redo(self):
        made = Desk()
        self.check(
            made, ("undo", "error NothingLeft"), ("redo", "error NothingLeft"), ("ring a rests(2)", "done"),
            ("ring a rests(3)", "done"), ("undo", "done"), ("numbers a", "2 1 1"), ("redo", "done"),
            ("numbers a", "3 1 3"),
            ("undo", "done"), ("undo", "done"), ("names", "none"), ("undo", "error NothingLeft"), ("undo 1", "unknown"),
            ("redo 1", "unknown"), ("redo", "done"), ("names", "a"),
        )

    def test_ring(self):
        made = desk()
        self.check(
            made, ("ring a rests(5)", "done"), ("ring b pairs(rests(2), sets(3))", "error Full"),
            ("ring a pairs(rests(2), sets(3))", "done"), ("ring a", "unknown"), ("ring a ", "unknown"),
            ("ring", "unknown"),
            ("ring ", "unknown"), ("ring  rests(2)", "unknown"), ("ring  ", "unknown"), ("ring   ", "unknown"),
            ("ring a  rests(2)", "error InvalidText"), ("ring a rests(2) ", "error InvalidText"),
            ("ring a  ", "error InvalidText"), ("ring a pairs(rests(2),  sets(3))", "error InvalidText"),
            ("ring a rests(1)", "error InvalidText"), ("ring A rests(2)", "error InvalidName"),
            ("ring in rests(2)", "error InvalidName"), ("ring sq rests(2)", "error DuplicateName"),
            ("ring a rests(2)\n", "unknown"), ("ring a\nrests(2)", "unknown"), ("ring a \n", "unknown"),
            ("ring\na rests(2)", "unknown"), (" ring a rests(2)", "unknown"),
        )
        self.assertEqual(made.shelf().item("a").text(), "pairs(rests(2), sets(3))")

    def test_unknown_lines(self):
        made = desk()
        before = (made.shelf().names(), made.shelf().history())
        for line in (
            "", " ", "  ", "\n", "names\n", "\nnames", "undo\n", "redo ", " redo", "undo  ", "hello", "Names", "NAMES",
            "realm", "realm ", "realm sq", "realm sq ", "realm  sq", "realm sq  same", "realm sq same ",
            " realm sq same",
            "realm sq same six", "fits", "verdict", "promise", "wish a x", "program a x", "put a", "quit",
            "realmsq same",
            "realm\nsq same", "realm sq\nsame", "drop six\n", "drop  six", "drop six ", "numbers six ", "unknown",
            "done",
            "x" * 4000, "names,", "history", "apply", "limit 3", "twin", "ringa rests(2)", "rings a rests(2)",
        ):
            self.check(made, (line, "unknown"))
        self.assertEqual((made.shelf().names(), made.shelf().history()), before)


class DeskTest(unittest.TestCase):
    def test_shelves(self):
        shelf = Shelf()
        made = Desk(shelf=shelf)
        self.assertIs(made.shelf(), shelf)
        made.say("ring r rests(7)")
        self.assertEqual(shelf.item("r"), Rests(7))
        shelf.apply(("wish", "w", "0\n"))
        self.assertEqual((made.say("names"), made.shelf().item("w")), ("r w", Wish.read("0\n")))
        shelf = read_page("ring a rests(2)\nend\n".replace(" rests", "\nrests"))
        self.assertIs(Desk(shelf=shelf).shelf(), shelf)
        one, other = Desk(), Desk(shelf=None)
        self.assertIsNot(one.shelf(), other.shelf())
        self.assertEqual((one.shelf(), one.shelf().limit, type(other.shelf())), (Shelf(), 12, Shelf))
        with self.assertRaises(TypeError):
            Desk(Shelf())

    def test_log(self):
        made = Desk()
        self.assertEqual((made.log(), len(made), repr(made)), ([], 0, "Desk(0 lines)"))
        answers = [made.say("names"), made("ring a rests(2)"), made("x"), made.say(line="undo"), made(line="undo")]
        self.assertEqual(answers, ["none", "done", "unknown", "done", "error NothingLeft"])
        self.assertEqual(made.log(), list(zip(["names", "ring a rests(2)", "x", "undo", "undo"], answers)))
        self.assertEqual((len(made), repr(made)), (5, "Desk(5 lines)"))
        made.log().append(1)
        self.assertEqual(len(made.log()), 5)
        made.say("names")
        self.assertEqual((len(made), made.log()[-1]), (6, ("names", "none")))
        made = Desk()
        made("names")
        self.assertEqual(repr(made), "Desk(1 lines)")
        self.assertLessEqual({"say", "shelf", "log", "__call__", "__init__", "__len__", "__repr__"},
                             names_of_methods(Desk))

    def test_steps_of_the_shelf(self):
        made = Desk()
        for line in ("ring a rests(2)", "names", "drop zz", "ring a rests(3)"):
            made(line)
        self.assertEqual(made.shelf().history(), (2, 0))
        made.shelf().undo()
        self.assertEqual(made("numbers a"), "2 1 1")
        made("undo")
        fails(self, NothingLeft, {}, made.shelf().undo)


if __name__ == "__main__":
    unittest.main()
