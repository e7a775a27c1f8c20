"""Pages of shelves: written and read; and the columns of realms."""

import unittest
from random import Random

from numbertypes.errors import InvalidText
from numbertypes.fits import realm_of
from numbertypes.pages import columns, read_page, write_page
from numbertypes.programtexts import read_program
from numbertypes.programs import Program
from numbertypes.realms import Realm
from numbertypes.shelves import Shelf
from numbertypes.wishes import Wish
from samples import ANY_VALUES, fails, same
from test_shelves import HALF, SQUARE, SWAP, stocked

PAGE = """ring bits
sets(2)
end
wish plus
x*x + 6
end
wish same
x
end
ring six
rests(6)
end
program sq
in x
y = x * x
out y
end
promise sq same bits
promise sq plus six
"""


def shelves():
    """Shelves of many kinds."""
    one = stocked()
    one.apply(("promise", "sq", "same", "bits"), ("promise", "sq", "plus", "six"))
    two = Shelf(limit=20)
    two.apply(("program", "swap", SWAP), ("program", "half", HALF), ("wish", "zero", "0\n"),
              ("wish", "many", "x + 1\n-x*y + 3*y*x\n7\n0\n"),
              ("ring", "big", "pairs(whole(30), swapped(words(2, rests(4))))"),
              ("program", "f", "proc f a\nb = a * a\nc = 1/2 * b\ngive c\nin x\ny = f(x)\nz = 2/4\nout y z x\n"))
    three = two.twin()
    three.apply(("ring", "comm", "rests(7)"), *[("promise", "swap", "zero", "comm")] * 8)
    three.apply(("release", 1), ("release", 5), ("drop", "half"))
    full = Shelf(limit=20)
    full.apply(*[(kind, "n" + letter, text) for letter, (kind, text) in zip(
        "abcdefghijklmnopqrst", [("wish", "x\n"), ("ring", "rests(2)"), ("program", SQUARE), ("wish", "1\n2\n")] * 5)])
    return [Shelf(), one, two, three, full]


class WriteTest(unittest.TestCase):
    def test_by_hand(self):
        shelf = stocked()
        shelf.apply(("promise", "sq", "plus", "six"), ("promise", "sq", "same", "bits"), ("release", 1),
                    ("promise", "sq", "plus", "six"))
        self.assertEqual(write_page(shelf), PAGE)
        self.assertEqual(write_page(shelf=Shelf()), "")
        shelf = Shelf()
        shelf.apply(("wish", "ab", "x - 0*y\n3\n"), ("program", "b", "in x y\nout y\n"), ("wish", "a", "0\n"))
        self.assertEqual(write_page(shelf), "wish a\n0\nend\nwish ab\nx\n3\nend\nprogram b\nin x y\nout y\nend\n")

    def test_nothing_is_changed(self):
        shelf = stocked()
        shelf.realm_for("sq", "same")
        write_page(shelf)
        self.assertEqual((shelf.history(), shelf.computed, shelf.kept()), ((1, 0), 1, [("sq", "same")]))


class ReadTest(unittest.TestCase):
    def refuse(self, text, line):
        fails(self, InvalidText, {"line": line}, read_page, text)

    def test_there_and_back(self):
        for shelf in shelves():
            page = write_page(shelf)
            found = read_page(text=page)
            self.assertIs(type(found), Shelf)
            self.assertEqual(write_page(found), page)
            self.assertEqual([(name, found.item(name)) for name in found.names()],
                             [(name, shelf.item(name)) for name in shelf.names()])
            for kind in ("program", "wish", "ring"):
                self.assertEqual(found.names(kind=kind), shelf.names(kind=kind))
            self.assertEqual(found.promises(), list(enumerate([promise for _, promise in shelf.promises()], 1)))
            self.assertTrue(same((found.limit, found.history(), found.kept(), found.computed), (20, (0, 0), [], 0)))
            found.apply()
            self.assertEqual(found.history(), (1, 0))

    def test_numbers_of_promises(self):
        found = read_page(PAGE)
        self.assertEqual(found.promises(), [(1, ("sq", "same", "bits")), (2, ("sq", "plus", "six"))])
        found.apply(("promise", "sq", "same", "bits"))
        self.assertEqual(found.promises()[2][0], 3)
        self.assertEqual(read_page(""), Shelf())

    def test_no_strings(self):
        for value in ANY_VALUES + [PAGE.encode(), [PAGE]]:
            if not isinstance(value, str):
                self.refuse(value, 0)
        for value in ("a", "2", "in", "x" * 4000, "\n", " \n", "end\n", "x\n"):
            self.refuse(value, 0)

    def test_lines_that_are_not_of_their_form(self):
        lines = PAGE.split("\n")
        for at in (0, 3, 6, 9, 12, 17, 18):
            for wrong in ("", " ", "end", "x", "ring", "ring ", "ring  bits", " ring a", "ring zz ", "ring zz yy",
                          "wish A",
                          "program in", "program abcdefg", "Ring zz", "item zz", "promise", "promise sq same",
                          "ring\tzz",
                          "promise sq same bits six", "promise sq  same bits", " promise sq same bits",
                          "promise sq same bits ", "promise sq same A", "promises sq same bits",
                          "promise out same bits", "drop six", "drop plus",
                          "release 1", "ring six rests(2)"):
                text = "\n".join(lines[:at] + [wrong] + lines[at:])
                self.refuse(text, at)
                self.refuse("\n".join(lines[:at] + [wrong, ""]), at)
                if wrong != "":
                    self.refuse("\n".join(lines[:at] + [wrong]), at)

    def test_places_of_lines(self):
        items, promises = PAGE[: PAGE.index("promise")], PAGE[PAGE.index("promise"):]
        self.refuse(promises + items, 0)
        self.refuse(items + promises + items, 19)
        self.refuse(items + promises + "wish t\n0\nend\n", 19)
        self.refuse(items + promises + "end\n", 19)
        self.refuse(items + "end\n" + promises, 17)
        self.refuse(items + promises + "\n", 19)

    def test_names_ascend(self):
        one, other = "wish b\n0\nend\n", "ring a\nrests(2)\nend\n"
        self.assertEqual(read_page(other + one).names(), ["a", "b"])
        self.refuse(one + other, 3)
        self.refuse(one + one, 3)
        self.refuse(one + "ring b\nrests(2)\nend\n", 3)
        self.refuse(one + "ring a\n", 3)
        self.refuse(one + "ring a", 3)
        self.refuse(one + "ring b\nwrong\n", 3)
        self.refuse(one + "ring ab\nrests(2)\nend\n", 3)
        self.assertEqual(read_page(one + "ring ba\nrests(2)\nend\n").names(), ["b", "ba"])

    def test_refused_items(self):
        for item, at in (
            ("ring r\nrests(1)\nend\n", 3), ("ring r\nend\n", 3), ("ring r\nrests(2)\nrests(3)\nend\n", 3),
            ("ring r\nrests(2)\n\nend\n", 3), ("ring r\n\nend\n", 3), ("ring r\n rests(2)\nend\n", 3),
            ("wish r\nend\n", 3),
            ("wish r\n0\n1/2\nend\n", 3), ("wish r\n0\n\nend\n", 3), ("wish r\n0\n0\n0\n0\n0\nend\n", 3),
            ("program r\nend\n", 3), ("program r\nin x\nout y\nend\n", 3), ("program r\nin x\nend\n", 3),
            ("program r\nin x\ny = x * x\nz = y * x\nout x\nend\n", 3), ("program r\nin x\nout x\nout x\nend\n", 3),
            ("wish r\nend\nend\n", 3),
        ):
            self.refuse("wish b\n0\nend\n" + item, at)
            self.refuse("wish b\n0\nend\n" + item + "nothing\n", at)
            self.refuse("wish b\n0\nend\n" + item + "ring a\nrests(2)\nend\n", at)
        self.refuse("wish r\nx\nend\n+ y\nend\n", 3)

    def test_a_form_that_is_called_end(self):
        shelf = Shelf()
        shelf.apply(("wish", "w", "end\n"))
        self.assertEqual(write_page(shelf), "wish w\nend\nend\n")
        self.refuse(write_page(shelf), 0)
        shelf.apply(("wish", "w", "x\nend\n"))
        self.refuse(write_page(shelf), 3)
        shelf.apply(("wish", "w", "end + x\n"))
        self.assertEqual(read_page(write_page(shelf)), shelf)

    def test_too_many_items(self):
        names = ["n" + letter for letter in "abcdefghijklmnopqrstu"]
        page = "".join(f"ring {name}\nrests(2)\nend\n" for name in names)
        self.refuse(page, 60)
        self.assertEqual(len(read_page(page[: page.index("ring nu")])), 20)
        # Where an item has no end, no command is refused.
        self.refuse(page[:-4], 62)
        self.refuse(page[: page.index("ring nu")] + "ring nt\n", 60)

    def test_refused_promises(self):
        items = PAGE[: PAGE.index("promise")]
        for promise in ("sq same six", "sq bits same", "same sq bits", "sq same gone", "sq plus bits"):
            right = "promise sq same bits\n"
            if promise == "sq plus bits":
                self.assertEqual(len(read_page(items + right + "promise " + promise + "\n").promises()), 2)
                continue
            self.refuse(items + right + "promise " + promise + "\n" + right, 18)
            self.refuse(items + right + "promise " + promise + "\nnothing\n", 18)
        self.assertEqual(len(read_page(items + "promise sq same bits\n" * 8).promises()), 8)
        self.refuse(items + "promise sq same bits\n" * 9, 25)

    def test_texts_that_end_too_early(self):
        lines = PAGE.split("\n")[:-1]
        ends = {0, 3, 6, 9, 12, 17, 18, 19}
        for at in range(len(lines) + 1):
            text = "".join(line + "\n" for line in lines[:at])
            if at in ends:
                self.assertIs(type(read_page(text)), Shelf)
            else:
                self.refuse(text, at)
            if at < len(lines):
                # A last line without its line feed is no complete line, also where it would end an item.
                self.refuse(text + lines[at], at)
        self.refuse("ring a\nrests(1)\nend", 2)
        self.refuse("ring a\nrests(1)\n", 2)
        self.refuse("ring a\nrests(2)\nend\nx", 3)

    def expected(self, text):
        """The index that the document gives for a page, or None, by trying all lines in order."""
        *lines, tail = text.split("\n")
        shelf, names, at, promised = Shelf(limit=20), [""], 0, False
        while at < len(lines):
            words = lines[at].split(" ")
            if words[0] == "promise":
                promised = True
                try:
                    shelf.apply(tuple(words))
                except (ValueError, LookupError):
                    return at
                at += 1
                continue
            if promised or words[0] not in ("ring", "wish", "program") or len(words) != 2:
                return at
            if not (words[1].isalpha() and words[1].islower() and len(words[1]) < 7) or words[1] in ("in", "out"):
                return at
            if words[1] <= names[-1]:
                return at
            if "end" not in lines[at + 1:]:
                return len(lines)
            end = lines.index("end", at + 1)
            body = "\n".join(lines[at + 1: end])
            if words[0] != "ring" and end > at + 1:
                body += "\n"
            try:
                shelf.apply((words[0], words[1], body))
            except (ValueError, LookupError):
                return at
            names.append(words[1])
            at = end + 1
        return len(lines) if tail else None

    def test_changed_pages(self):
        random = Random(1)
        pages = [write_page(shelf) for shelf in shelves()[1:4]]
        found = []
        for _ in range(1500):
            lines = random.choice(pages).split("\n")
            for _ in range(random.randint(1, 2)):
                at, other = random.randrange(len(lines)), random.randrange(len(lines))
                kind = random.randrange(5)
                if kind == 0:
                    del lines[at]
                elif kind == 1:
                    lines.insert(at, lines[other])
                elif kind == 2:
                    lines[at], lines[other] = lines[other], lines[at]
                elif kind == 3:
                    lines[at] = lines[at].replace(random.choice("abcdefinprsw x"), random.choice("aen "), 1)
                else:
                    lines = lines[: at + 1]
                if not lines:
                    break
            text = "\n".join(lines)
            line = self.expected(text)
            found.append(line)
            if line is None:
                self.assertIs(type(read_page(text)), Shelf)
            else:
                self.refuse(text, line)
        self.assertGreater(found.count(None), 50)
        self.assertGreater(len(set(found)), 30)


class ColumnsTest(unittest.TestCase):
    def test_lines(self):
        realms = [Realm(), Realm(inverse=6, swaps=35), Realm(ones=12, squares=6, swaps=3), Realm.nowhere()]
        self.assertEqual(columns(realms), [
            "  0       1       0       0       0",
            "  1       6       0      35       0",
            "  2       1      12       3       6",
            "  3       1       1       1       1",
        ])
        self.assertEqual(columns(realms=()), [])
        self.assertEqual(columns(tuple(realms)), columns(realms))

    def test_longer_numbers(self):
        realms = [Realm()] * 1000 + [Realm(swaps=12345678), Realm(swaps=123456789), Realm(ones=10**5000)]
        found = columns(realms)
        self.assertEqual(found[99], " 99       1       0       0       0")
        self.assertEqual(found[999], "999       1       0       0       0")
        self.assertEqual(found[1000], "1000       1       012345678       0")
        self.assertEqual(found[1001], "1001       1       0123456789       0")
        self.assertEqual(found[1002], "1002       1" + ("1" + "0" * 5000) * 3)

    def test_great_inverses(self):
        steps = [("constant", name, 1, q) for name, q in zip("bcd", (997, 991, 983))]
        realm = realm_of(Program(["a"], steps, ["a"]), Wish.read("a\n"))
        self.assertEqual(columns([realm]), ["  0971230541       0       0       0"])
        self.assertEqual(columns([realm_of(read_program(SQUARE), Wish.read("x\n"))]),
                         ["  0       1       2       1       1"])


if __name__ == "__main__":
    unittest.main()
