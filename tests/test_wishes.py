"""Wishes: their forms and texts."""

import unittest

from numbertypes.errors import InvalidText, NotWhole, WrongCount
from numbertypes.forms import Form
from numbertypes.wishes import Wish
from samples import ANY_VALUES, fails
from test_forms import names_of_methods

A, B = Form.word("a"), Form.word("b")


class WishTest(unittest.TestCase):
    def test_parts(self):
        wish = Wish(A * B, Form(), Form.read("2*a - 3"))
        self.assertEqual(wish.forms(), [A * B, Form(), Form.read("2*a - 3")])
        self.assertEqual((len(wish), repr(wish), wish.text()), (3, "Wish(3 forms)", "a*b\n0\n2*a - 3\n"))
        wish.forms().clear()
        self.assertEqual(len(wish.forms()), 3)
        self.assertEqual(repr(Wish(A)), "Wish(1 forms)")
        self.assertLessEqual(
            {"forms", "text", "__init__", "__len__", "__eq__", "__repr__"}, names_of_methods(Wish)
        )
        self.assertIsInstance(Wish.__dict__["read"], staticmethod)

    def test_equality(self):
        self.assertIs(Wish(A, B) == Wish(A, B), True)
        self.assertIs(Wish(A, B) != Wish(A, B), False)
        self.assertIs(Wish(A + B) == Wish(B + A), True)
        for other in (Wish(B, A), Wish(A), Wish(A, B, B), Wish(A, -B)):
            self.assertIs(Wish(A, B) == other, False)
            self.assertIs(Wish(A, B) != other, True)
        for value in ANY_VALUES + ["a\nb\n", repr(Wish(A, B)), A, [A, B], (A, B)]:
            self.assertIs(Wish(A, B) == value, False)

    def test_wrong_counts(self):
        half = Form.read("1/2*a")
        fails(self, WrongCount, {"given": 0}, Wish)
        fails(self, WrongCount, {"given": 5}, Wish, A, A, A, A, A)
        fails(self, WrongCount, {"given": 6}, Wish, half, A, A, A, A, A)
        self.assertEqual(len(Wish(A, A, A, A)), 4)

    def test_shares_that_are_not_whole(self):
        half, third = Form.read("1/2*a"), Form.read("a*b + 1/3")
        fails(self, NotWhole, {"at": 0}, Wish, half)
        fails(self, NotWhole, {"at": 1}, Wish, A, third, half)
        fails(self, NotWhole, {"at": 3}, Wish, A, B, Form(), third)
        self.assertEqual(Wish(half.scaled(2)).forms(), [A])

    def test_texts(self):
        for text in ("0\n", "a\n", "a*b - b*a\n", "a\n0\n-3*b*b + 2*a - 1\n12\n", "a\na\na\na\n"):
            wish = Wish.read(text)
            self.assertEqual(wish.text(), text)
            self.assertEqual(wish.forms(), [Form.read(line) for line in text.split("\n")[:-1]])
        self.assertEqual(Wish.read(text="1 + a + a\n4/2*b\n"), Wish(Form.read("2*a + 1"), Form.read("2*b")))

    def test_bent_texts(self):
        for text, line in (
            ("", 0), ("\n", 0), (" \n", 0), ("a", 0), ("a\nb", 1), ("a\n\n", 1), ("a\n\nb\n", 1), ("\na\n", 0),
            ("a\nb\nA\n", 2), ("a\nb\nc*\nd", 2), ("a\nb\nc\nd", 3), ("a\nb\nc\nd*", 3), ("a \n", 0), ("a\n b\n", 1),
            ("A\nB\n", 0), ("a\nb +\n1/2\n", 1), ("1/2*a\n+\n", 1), ("a\n" * 5 + "+\n", 5), ("a\n" * 5 + "a", 5),
            ("a\n" * 5 + "\n", 5), ("1/2*a", 0), ("1/2*a\n ", 1), ("+\na", 0),
        ):
            fails(self, InvalidText, {"line": line}, Wish.read, text)
        for value in ANY_VALUES + [["a\n"], ("a\n",)]:
            if not isinstance(value, str):
                fails(self, InvalidText, {"line": 0}, Wish.read, value)

    def test_errors_of_wishes_behind_those_of_texts(self):
        fails(self, WrongCount, {"given": 5}, Wish.read, "a\n1/2\na\na\na\n")
        fails(self, WrongCount, {"given": 2000}, Wish.read, "a\n" * 2000)
        fails(self, NotWhole, {"at": 1}, Wish.read, "a\n1/2\n1/3*a\n")
        self.assertEqual(Wish.read("2/2*a\n").text(), "a\n")


if __name__ == "__main__":
    unittest.main()
