"""Forms: their terms, texts, sums, products and values."""

import inspect
import sys
import unittest

from drawn import Drawer
from numbertypes.builds import Matrices, Polynomials
from numbertypes.errors import (
    DegreeTooHigh,
    InvalidName,
    InvalidNumber,
    InvalidTerm,
    InvalidText,
    InvalidThing,
    NoInverse,
    UnknownName,
)
from numbertypes.forms import Form
from numbertypes.rings import Fractions, Rests, Sets, Whole
from numbertypes.wider import Quaternions, Words
from samples import ANY_VALUES, NO_INTEGERS, all_samples, fails, same

HUGE = 10**40
LONG = 7**6000


def names_of_methods(kind):
    return {name for name, value in kind.__dict__.items() if inspect.isfunction(value) or isinstance(value, property)}


class TermsTest(unittest.TestCase):
    def test_terms_that_come_several_times(self):
        form = Form([(("a",), 1, 2), ((), 3, 6), (("a",), 1, 3), (("b", "a"), -4, 2), (("a",), 0, 5), ((), 1, 1)])
        self.assertEqual(form.words(), [("b", "a"), ("a",), ()])
        self.assertTrue(same(form.share_of("a"), (5, 6)))
        self.assertTrue(same(form.share_of(), (3, 2)))
        self.assertTrue(same(form.share_of("b", "a"), (-2, 1)))
        self.assertTrue(same(form.share_of("a", "b"), (0, 1)))
        self.assertTrue(same(form.share_of("c"), (0, 1)))
        self.assertTrue(same(form.share_of("a", "a", "a"), (0, 1)))
        self.assertEqual((form.degree, form.divisor, len(form), form.names()), (2, 6, 3, ["a", "b"]))

    def test_shares_that_cancel(self):
        form = Form([(("a", "b"), 1, 3), (("a",), 2, 1), (("a", "b"), -2, 6), ((), 0, 7)])
        self.assertEqual((form.words(), form.degree, form.divisor, len(form)), ([("a",)], 1, 1, 1))
        for zero in (Form(), Form([]), Form(()), Form(terms=[]), Form([(("a",), 1, 2), (("a",), -3, 6)])):
            self.assertEqual(zero, Form())
            self.assertEqual((zero.words(), zero.names(), zero.degree, zero.divisor), ([], [], 0, 1))
            self.assertEqual((len(zero), zero.text(), repr(zero)), (0, "0", "Form(0)"))

    def test_order_of_words(self):
        words = [(), ("b",), ("a",), ("b", "a"), ("a", "b"), ("aa",), ("a", "a"), ("aa", "a"), ("a", "aa")]
        form = Form([(word, 1, 1) for word in words])
        self.assertEqual(
            form.words(),
            [("a", "a"), ("a", "aa"), ("a", "b"), ("aa", "a"), ("b", "a"), ("a",), ("aa",), ("b",), ()],
        )
        self.assertEqual(form.names(), ["a", "aa", "b"])

    def test_divisor_is_the_least_common_multiple(self):
        form = Form([(("a",), 1, 4), (("b",), 5, 6), ((), 3, 10)])
        self.assertEqual(form.divisor, 60)
        self.assertEqual(Form([(("a",), 2, 4)]).divisor, 2)

    def test_numbers_of_any_size(self):
        form = Form([(("a",), LONG, HUGE), (("a",), LONG, HUGE), ((), -HUGE, LONG)])
        self.assertEqual(form.share_of("a"), (LONG, HUGE // 2))
        self.assertEqual(form.divisor, LONG * (HUGE // 2))

    def test_the_list_is_copied(self):
        terms = [(("a",), 1, 2)]
        form = Form(terms)
        terms.append((("b",), 1, 1))
        terms[0] = (("c",), 1, 1)
        self.assertEqual(form.text(), "1/2*a")
        form.words().append(("z",))
        form.names().append("z")
        self.assertEqual((form.words(), form.names()), ([("a",)], ["a"]))

    def test_a_tuple_of_terms(self):
        self.assertEqual(Form(((("a",), 1, 2), ((), 1, 1))).text(), "1/2*a + 1")

    def test_wrong_terms(self):
        wrong = ANY_VALUES + [
            [("a",), 1, 1], (["a"], 1, 1), ("a", 1, 1), (("a", "b", "c"), 1, 1), (("A",), 1, 1), (("in",), 1, 1),
            (("a", "out"), 1, 1), (("abcdefg",), 1, 1), (("",), 1, 1), ((1,), 1, 1), ((None,), 1, 1), (("a",), 1),
            (("a",), 1, 1, 1), (("a",), 1, 0), (("a",), 1, -1), (("a",), True, 1), (("a",), 1, True), ((), None, 1),
            ((), "1", 1), ((), 1, "1"), ((), 1, None), ((), (1,), 1), ((("a",),), 1, 1), ((("a"), ["b"]), 1, 1),
        ]
        wrong = [value for value in wrong if value != ((), 1, 1)]
        for value in wrong:
            fails(self, InvalidTerm, {"at": 0}, Form, [value])
            fails(self, InvalidTerm, {"at": 1}, Form, [(("a",), 1, 1), value, "other"])
            fails(self, InvalidTerm, {"at": 2}, Form, terms=((("a",), 1, 1), ((), 0, 9), value))

    def test_word(self):
        self.assertEqual(Form.word(), Form([((), 1, 1)]))
        self.assertEqual(Form.word("a"), Form([(("a",), 1, 1)]))
        self.assertEqual(Form.word("b", "a"), Form([(("b", "a"), 1, 1)]))
        self.assertEqual(Form.word("zzzzzz", "zzzzzz").text(), "zzzzzz*zzzzzz")

    def test_wrong_words(self):
        for value in ANY_VALUES + ["A", "proc", "give", "out", "abcdefg", "a b", "a1", "\n"]:
            if value == "a":
                continue
            fails(self, InvalidName, {"given": value}, Form.word, value)
            fails(self, InvalidName, {"given": value}, Form.word, "a", value, "in")
            fails(self, InvalidName, {"given": value}, Form.word, "a", "b", "c", value)
        fails(self, DegreeTooHigh, {"at": None}, Form.word, "a", "b", "c")
        fails(self, DegreeTooHigh, {"at": None}, Form.word, "a", "a", "a", "a")

    def test_interface(self):
        self.assertLessEqual(
            {"degree", "divisor", "text", "words", "names", "share_of", "scaled", "value", "__init__", "__add__",
             "__sub__", "__neg__", "__mul__", "__len__", "__eq__", "__repr__"},
            names_of_methods(Form),
        )
        for name in ("read", "word"):
            self.assertIsInstance(Form.__dict__[name], staticmethod)
        for name in ("degree", "divisor"):
            with self.assertRaises(AttributeError):
                setattr(Form(), name, 1)


class OperatorsTest(unittest.TestCase):
    def setUp(self):
        made = Drawer(3)
        self.forms = [made.form(["a", "b"], (1, 2, 3, 6), most=5) for _ in range(25)]
        self.forms += [Form(), Form.word(), Form.word("a"), Form([((), LONG, HUGE)])]
        self.texts = [form.text() for form in self.forms]

    def tearDown(self):
        self.assertEqual([form.text() for form in self.forms], self.texts)

    def test_sums_and_differences(self):
        for f in self.forms:
            self.assertEqual(f + Form(), f)
            self.assertEqual(f - f, Form())
            self.assertEqual(-f, Form() - f)
            for g in self.forms:
                total = f + g
                self.assertEqual(total, g + f)
                self.assertEqual(f - g, f + -g)
                words = set(f.words()) | set(g.words())
                for word in words:
                    (p, q), (r, s) = f.share_of(*word), g.share_of(*word)
                    n, d = total.share_of(*word)
                    self.assertEqual(n * q * s, (p * s + r * q) * d)
                self.assertLessEqual(set(total.words()), words)

    def test_products(self):
        a, b = Form.word("a"), Form.word("b")
        self.assertEqual((a * b).text(), "a*b")
        self.assertEqual((b * a).text(), "b*a")
        one = Form.read("2*a - b + 1/2")
        other = Form.read("a + 3*b - 4")
        self.assertEqual(one * other, Form.read("2*a*a + 6*a*b - b*a - 3*b*b - 15/2*a + 11/2*b - 2"))
        self.assertEqual(Form.read("a*b + a").scaled(3), Form.read("a*b + a") * Form.read("3"))
        self.assertEqual((a + b) * (a - b), Form.read("a*a - a*b + b*a - b*b"))

    def test_products_by_degree(self):
        for f in self.forms:
            for g in self.forms:
                if f.degree + g.degree > 2:
                    fails(self, DegreeTooHigh, {"at": None}, lambda f=f, g=g: f * g)
                else:
                    product = f * g
                    self.assertEqual(len(product) == 0, len(f) == 0 or len(g) == 0)
                    if len(product) > 0:
                        self.assertEqual(product.degree, f.degree + g.degree)
        self.assertEqual(Form() * Form.read("a*b"), Form())
        self.assertEqual(Form.read("a*b") * Form(), Form())

    def test_scaled(self):
        form = Form.read("2*a*b - 3/4*a + 5")
        self.assertEqual(form.scaled(2), Form.read("4*a*b - 3/2*a + 10"))
        self.assertEqual(form.scaled(2, 6), Form.read("2/3*a*b - 1/4*a + 5/3"))
        self.assertEqual(form.scaled(q=4, p=-4), -form)
        self.assertEqual(form.scaled(0, 7), Form())
        self.assertEqual(form.scaled(LONG, LONG * 2), form.scaled(1, 2))
        for value in NO_INTEGERS + [0, -1, -HUGE]:
            fails(self, InvalidNumber, {"given": value}, form.scaled, 1, value)
            fails(self, InvalidNumber, {"given": value}, Form().scaled, 0, q=value)

    def test_equality(self):
        form = Form.read("a*b + 2/3")
        for other in (Form.read("4/6 + a*b"), Form([((), 2, 3), (("a", "b"), 5, 5)]),
                      Form([((), 2, 3)]) + Form.word("a", "b")):
            self.assertIs(form == other, True)
            self.assertIs(form != other, False)
        for other in [Form(), -form, Form.read("b*a + 2/3"), Form.read("a*b + 2"), Form.read("a*b")]:
            self.assertIs(form == other, False)
            self.assertIs(form != other, True)
        for value in ANY_VALUES + [form.text(), repr(form), Form, {("a", "b"): (1, 1)}]:
            self.assertIs(form == value, False)
            self.assertIs(Form() == value, False)

    def test_other_operands(self):
        for call in (lambda x: x + 1, lambda x: x - 1, lambda x: x * 2, lambda x: 1 + x, lambda x: x + "a"):
            with self.assertRaises(TypeError):
                call(Form.word("a"))


class TextTest(unittest.TestCase):
    def test_texts(self):
        for terms, text in (
            ([(("a",), 1, 1)], "a"), ([(("a",), -1, 1)], "-a"), ([((), 1, 1)], "1"), ([((), -1, 1)], "-1"),
            ([((), -3, 6)], "-1/2"), ([(("a", "b"), -3, 1)], "-3*a*b"), ([(("a",), 1, 2)], "1/2*a"),
            ([(("a",), -1, 2)], "-1/2*a"), ([((), 12, 1)], "12"),
            ([((), 1, 1), (("b",), -1, 1), (("a",), 2, 3), (("b", "a"), 1, 1), (("a", "b"), -7, 2)],
             "-7/2*a*b + b*a + 2/3*a - b + 1"),
            ([((), -1, 1), (("a", "a"), 1, 1), (("b", "b"), -1, 1)], "a*a - b*b - 1"),
        ):
            form = Form(terms)
            self.assertEqual(form.text(), text)
            self.assertEqual(repr(form), "Form(" + text + ")")
            self.assertEqual(Form.read(text), form)

    def test_there_and_back(self):
        made = Drawer(5)
        for _ in range(300):
            form = made.form(["a", "bb", "c"], (1, 2, 7, 999), most=8, great=10**6)
            self.assertEqual(Form.read(form.text()), form)
            self.assertEqual(Form.read(text=form.text()).text(), form.text())

    def test_other_writings(self):
        for text, expected in (
            ("1*a", "a"), ("3/1*a", "3*a"), ("0*a", "0"), ("0", "0"), ("-0", "0"), ("0/5", "0"), ("-0*a*b", "0"),
            ("2/4*a", "1/2*a"), ("a + a", "2*a"), ("a - a", "0"), ("1 + a + b*a", "b*a + a + 1"), ("6/3", "2"),
            ("b + a*b - 2 + b", "a*b + 2*b - 2"), ("-a - b", "-a - b"), ("1*a*b", "a*b"), ("1/1", "1"),
            ("999999999999*a", "999999999999*a"), ("1/999999999999", "1/999999999999"), ("-1*a", "-a"),
            ("0 - a", "-a"), ("0*a + 0*b + 0", "0"), ("inn", "inn"), ("a*outs", "a*outs"), ("a - 0", "a"),
        ):
            self.assertEqual(Form.read(text).text(), expected, text)

    def test_long_texts(self):
        text = " + ".join(["a"] * 1000)
        self.assertEqual(Form.read(text).text(), "1000*a")
        text = " - ".join(["1/" + str(k) for k in range(1, 300)])
        self.assertEqual(len(Form.read(text)), 1)

    def test_bent_texts(self):
        for text in (
            "", " ", "\n", "a\n", " a", "a ", "+a", "+ a", "- a", "--a", "-", "+", "a +", "a -", "a + ", "a - ", "a+b",
            "a + + b", "a + -b", "a - -b", "a  + b", "a +  b", "a b", "a*", "*a", "*", "a**b", "a*b*c", "2*a*b*c",
            "2*", "*2", "a*2", "2*3", "2*3*a", "2a", "a2", "2 * a", "2* a", "1/2/3", "1/", "/2", "1/0", "0/0", "1/-2",
            "1/02", "01", "00", "01*a", "-01", "1/2*", "1.5", "1e3", "1_0", "1000000000000", "1/1000000000000",
            "1000000000000*a", "0000000000001", "A", "a + B", "in", "out", "proc", "give", "2*in", "a*in", "abcdefg",
            "a + abcdefg", "a1", "a_b", "(a)", "a + (b)", "a^2", "a*a^2", "a = b", "Form(a)", "a, b", "a\nb", "a + b\n",
            "\na", "a\n+ b", "a + 1/0", "a + 1/00", "3/1/1*a", "a/2", "a*1/2", "- 1", "-+1", "a +b", "a+ b", "a- b",
            "a + b +", "a + b c", "~", "\"a\"", "a;", "0x1", "x" * 4000, "9" * 4000, "*" * 4000, " + " * 1000,
        ):
            fails(self, InvalidText, {"line": 0}, Form.read, text)

    def test_bent_in_one_place(self):
        text = "-7/2*a*b + 3*ba + 12"
        for at in range(len(text) + 1):
            for sign in " *+-/0aA.\n":
                bent = text[:at] + sign + text[at:]
                try:
                    form = Form.read(bent)
                except InvalidText as error:
                    self.assertEqual(error.line, 0)
                else:
                    # What is read still has just the parts that are written.
                    self.assertNotIn(sign, " .A\n", bent)
                    self.assertEqual(form, Form.read(form.text()))

    def test_values_that_are_no_strings(self):
        for value in ANY_VALUES + [["a"], ("a",), [["a"]]]:
            if not isinstance(value, str):
                fails(self, InvalidText, {"line": 0}, Form.read, value)

    def test_numbers_of_thousands_of_digits(self):
        # Python itself refuses to write integers of more than 4300 digits.
        self.assertLess(sys.get_int_max_str_digits(), 5000)
        self.assertEqual(Form([(("a",), 10**5000, 1)]).text(), "1" + "0" * 5000 + "*a")
        self.assertEqual(repr(Form([((), -1, 10**9000)])), "Form(-1/1" + "0" * 9000 + ")")
        digits = "".join(str(k % 10) for k in range(1, 20000))
        number = 0
        for at in range(0, len(digits), 1000):
            part = digits[at : at + 1000]
            number = number * 10 ** len(part) + int(part)
        self.assertEqual(Form([((), number, 1)]).text(), digits)


class ValueTest(unittest.TestCase):
    def value_by_hand(self, form, ring, things):
        total = ring.zero()
        for word in form.words():
            thing = ring.share(*form.share_of(*word))
            for name in word:
                thing = ring.product(thing, things[name])
            total = ring.plus(total, thing)
        return total

    def test_by_hand(self):
        form = Form.read("2*a*b - b*a + 1/3*a - 4")
        self.assertEqual(form.value(Rests(7), {"a": 3, "b": 5}), (2 * 15 - 15 + 3 * 5 - 4) % 7)
        self.assertEqual(form.value(Fractions(), {"a": (1, 2), "b": (3, 1)}), (-7, 3))
        self.assertEqual(Form.read("a*b - b*a").value(
            Matrices(2, Rests(5)), {"a": ((0, 1), (0, 0)), "b": ((0, 0), (1, 0))}
        ), ((1, 0), (0, 4)))
        ring = Quaternions(Whole())
        i = tuple((int(k == 1), 1) for k in range(4))
        j = tuple((int(k == 2), 1) for k in range(4))
        self.assertEqual(Form.read("a*b").value(ring, {"a": i, "b": j}), ((0, 1), (0, 1), (0, 1), (1, 1)))
        self.assertEqual(Form.read("b*a").value(ring, {"a": i, "b": j}), ((0, 1), (0, 1), (0, 1), (-1, 1)))
        self.assertEqual(Form.read("a + a*a").value(Sets(2), {"a": 3}), 0)
        self.assertEqual(Form().value(Rests(5), {}), 0)
        self.assertEqual(Form.read("3").value(Polynomials(Rests(3)), {}), ())

    def test_in_many_rings(self):
        made = Drawer(8)
        forms = [made.form(["a", "b"], (1, 5, 7), most=6) for _ in range(4)]
        for ring, things in all_samples():
            for form in forms:
                if not ring.has_inverse(form.divisor):
                    continue
                named = {"b": things[-1], "a": things[-2], "z": "no thing", "in": None}
                self.assertEqual(form.value(ring, named), self.value_by_hand(form, ring, named), (ring, form))
                self.assertEqual(form.value(things=named, ring=ring), form.value(ring, named))

    def test_huge_shares(self):
        form = Form([(("a",), LONG, 1), ((), 1, 7**5000)])
        self.assertEqual(form.value(Rests(10), {"a": 3}), (7**6000 * 3 + pow(3, 5000, 10)) % 10)

    def test_unknown_names(self):
        form = Form.read("1/2*c*b + a")
        fails(self, UnknownName, {"name": "a"}, form.value, Rests(4), {})
        fails(self, UnknownName, {"name": "b"}, form.value, Rests(4), {"a": "no thing"})
        fails(self, UnknownName, {"name": "c"}, form.value, Rests(4), {"a": None, "b": 9, "d": 1})

    def test_wrong_things(self):
        form = Form.read("1/2*c*b + a")
        ring = Rests(4)
        for value in ANY_VALUES:
            if ring.is_thing(value):
                continue
            fails(self, InvalidThing, {"given": value}, form.value, ring, {"a": value, "b": "x", "c": 1})
            fails(self, InvalidThing, {"given": value}, form.value, ring, {"c": "x", "a": 0, "b": value})
            fails(self, InvalidThing, {"given": value}, form.value, ring, {"c": value, "a": 0, "b": 3, "z": "x"})

    def test_no_inverse(self):
        things = {"a": 0, "b": 0}
        fails(self, NoInverse, {"number": 4}, Form.read("1/3*b + 1/4*a*b + 1/2*a").value, Rests(4), things)
        fails(self, NoInverse, {"number": 2}, Form.read("1/3*b + 1/5*a*b + 1/2*a + 1/6").value, Rests(4), things)
        fails(self, NoInverse, {"number": 6}, Form.read("1/3*b + 1/5*a*b + 1/6").value, Rests(4), things)
        fails(self, NoInverse, {"number": 3}, Form.read("1/3*a").value, Whole(2), {"a": (3, 1)})
        fails(self, NoInverse, {"number": LONG}, Form([((), 1, LONG)]).value, Rests(14), {})

    def test_nothing_is_changed(self):
        named = {"a": 1, "b": 2}
        form = Form.read("a*b + a")
        form.value(Rests(5), named)
        self.assertEqual(named, {"a": 1, "b": 2})
        self.assertEqual(form.text(), "a*b + a")

    def test_words_of_letters(self):
        ring = Words(2, Rests(3))
        x, y = (((0,), 1),), (((1,), 2),)
        self.assertEqual(Form.read("a*b + b*a").value(ring, {"a": x, "b": y}), (((0, 1), 2), ((1, 0), 2)))


if __name__ == "__main__":
    unittest.main()
