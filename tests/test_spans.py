"""Spans: what is told by shown forms, orders, the fewest shown forms, and the papers."""

import unittest
from itertools import combinations, product
from math import gcd

from drawn import Drawer
from numbertypes.errors import NoInverse, TooMany
from numbertypes.forms import Form
from numbertypes.normal import normal_form
from numbertypes.realms import Realm
from numbertypes.spans import Span, Told, Untold
from samples import ANY_VALUES, fails, same
from test_forms import names_of_methods
from test_normal import fitting, rules
from test_realms import small_realms

HUGE = 10**40
A, B = Form.word("a"), Form.word("b")


def read(*texts):
    return [Form.read(text) for text in texts]


def told_by_hand(realm, shown, form):
    """Whether a form is told, by trying all sums of the shown forms in a realm whose ones is not 0."""
    wanted = normal_form(form, realm)
    for factors in product(range(realm.ones), repeat=len(shown)):
        total = Form()
        for factor, part in zip(factors, shown):
            total = total + part.scaled(factor)
        if normal_form(total, realm) == wanted:
            return True
    return False


class OrderTest(unittest.TestCase):
    def check(self, span, form):
        realm = span.realm
        order = span.order(form)
        paper = span.telling(form)
        self.assertIs(paper.holds(), True, (realm, span.shown, form))
        self.assertIsInstance(paper, Told if order == 1 else Untold)
        self.assertIs(bool(paper), order == 1)
        self.assertEqual((paper.span, paper.form), (span, form))
        if order > 0:
            self.assertEqual(gcd(order, realm.inverse), 1)
            self.assertIs(span.telling(form.scaled(order)).holds(), True)
            self.assertEqual(span.order(form.scaled(order)), 1)
            for h in range(1, min(order, 13)):
                if gcd(h, realm.inverse) == 1:
                    self.assertIs(bool(span.telling(form.scaled(h))), False)
        else:
            for h in (1, 2, 3, 12, 60, 5040, HUGE):
                self.assertEqual(span.order(form.scaled(h)), 0)
        return order

    def test_examples(self):
        for realm, shown, form, order in (
            (Realm(), ["2*a", "3*a"], "a", 1), (Realm(), ["4*a", "6*a"], "a", 2), (Realm(inverse=2), ["4*a"], "a", 1),
            (Realm(inverse=2), ["12*a"], "a", 3), (Realm(), ["a"], "b", 0), (Realm(), [], "0", 1),
            (Realm(), [], "1", 0),
            (Realm(ones=6), [], "1", 6), (Realm(ones=6), ["2*a"], "a", 2), (Realm(ones=6), ["4*a"], "a", 2),
            (Realm(ones=6), ["5*a"], "a", 1), (Realm(ones=6), ["a + 1"], "a", 6),
            (Realm.commuting(), ["a*b"], "b*a", 1),
            (Realm(), ["a*b"], "b*a", 0), (Realm(swaps=4), ["a*b"], "b*a", 4), (Realm(swaps=4), ["2*a*b"], "b*a", 4),
            (Realm(swaps=3), ["2*a*b"], "b*a", 6), (Realm(squares=1), ["a"], "a*a", 1),
            (Realm(squares=3), ["a"], "a*a", 3),
            (Realm(squares=3), ["2*a"], "a*a", 6), (Realm.nowhere(), [], "a*b + 7", 1),
            (Realm.nowhere(), ["a"], "1/7*b", 1),
            (Realm(inverse=6), ["1/2*a + 1/3*b", "1/9*b"], "a + b", 1),
            (Realm(inverse=6, swaps=5), ["1/2*a*b"], "b*a", 5),
            (Realm(inverse=2), ["3*a + 1", "3"], "3*a", 3), (Realm(inverse=2), ["3*a + 1", "3"], "a", 9),
            (Realm(), ["a*a + a*b", "a*b"], "a*a", 1), (Realm(), ["a*a + 2*a*b", "4*a*b"], "a*a", 2),
        ):
            span = Span(realm, *read(*shown))
            self.assertEqual(span.order(Form.read(form)), order, (realm, shown, form))
            self.assertEqual(self.check(span, Form.read(form)), order)

    def test_drawn_forms(self):
        made = Drawer(1)
        orders = set()
        for realm in small_realms():
            for _ in range(12):
                names = ["a", "b", "c", "d"][: made.random.randint(1, 4)]
                shown = [made.form(names, fitting(realm)) for _ in range(made.random.randint(0, 4))]
                form = made.form(names, fitting(realm), most=1)
                for part in shown:
                    form = form + part.scaled(made.random.randint(-3, 3), made.random.choice(fitting(realm)))
                orders.add(self.check(Span(realm, *shown), form))
        self.assertLessEqual({0, 1, 2, 3, 4, 6}, orders)

    def test_by_all_sums(self):
        made = Drawer(2)
        told = 0
        for ones in (2, 3, 4, 5, 6):
            for swaps, squares in product((0, 1, 2), (0, 1, 2, 3)):
                realm = Realm(ones=ones, swaps=swaps, squares=squares)
                for _ in range(6):
                    shown = [made.form(["a", "b"], fitting(realm), most=3) for _ in range(3)]
                    form = made.form(["a", "b"], fitting(realm), most=2)
                    expected = told_by_hand(realm, shown, form)
                    self.assertIs(bool(Span(realm, *shown).telling(form)), expected, (realm, shown, form))
                    self.check(Span(realm, *shown), form)
                    told += expected
        self.assertGreater(told, 50)

    def test_rules_are_told_by_nothing(self):
        for realm in small_realms():
            for rule in rules(realm, ["a", "b"]):
                self.assertEqual(Span(realm).order(rule), 1)
                self.assertIs(Span(realm).telling(rule).holds(), True)

    def test_names_that_the_shown_forms_have_not(self):
        self.assertEqual(self.check(Span(Realm(ones=4), A), A + B), 4)
        self.assertEqual(self.check(Span(Realm(), A), A + B - B), 1)
        self.assertEqual(self.check(Span(Realm(ones=4, squares=2), A), Form.read("2*b*b + 2*b + a")), 1)
        self.assertEqual(self.check(Span(Realm(ones=4, squares=2), A), Form.read("b*b + a")), 4)
        self.assertEqual(self.check(Span(Realm(ones=4, squares=2), A), Form.read("b*b + 3*b + a")), 2)

    def test_great_numbers(self):
        made = Drawer(3)
        names = ["a", "b", "c", "d"]
        for realm in (Realm(), Realm(swaps=10**29), Realm(ones=10**30), Realm(inverse=30, swaps=7),
                      Realm(squares=10**30 + 1)):
            shown = [made.form(names, fitting(realm), most=40, great=10**30) for _ in range(8)]
            span = Span(realm, *shown)
            self.check(span, made.form(names, fitting(realm), most=40, great=10**30))
            total = Form()
            for part in shown:
                total = total + part.scaled(made.random.randint(-(10**30), 10**30))
            self.assertEqual(self.check(span, total), 1)
            self.check(span, total + shown[0].scaled(1, 7) if realm.has_inverse(7) else total + A)
        long = Form([(("a",), 7**5000, 1)])
        self.assertEqual(Span(Realm(), long).order(A), 7**5000)
        self.assertEqual(Span(Realm(ones=10), long).order(A), 1)


class FewestTest(unittest.TestCase):
    def test_examples(self):
        shown = read("2*a", "3*a", "a + b", "b", "a", "a*b")
        span = Span(Realm(), *shown)
        for texts, expected in (
            ([], []), (["0"], []), (["a"], [4]), (["6*a"], [0]), (["9*a"], [1]), (["a", "b"], [2, 3]),
            (["a + 2*b"], [2, 3]),
            (["a*b"], [5]), (["b*a"], None), (["a", "1"], None), (["2*a + b"], [0, 3]), (["5*a"], [4]),
            (["a*b", "4*a"], [0, 5]),
            (["a*b", "b", "a"], [2, 3, 5]), (["b", "0", "3*b"], [3]),
        ):
            self.assertEqual(span.fewest(*read(*texts)), expected, texts)
        self.assertEqual(Span(Realm(), *shown[:2]).fewest(A), [0, 1])
        self.assertEqual(Span(Realm(inverse=2), *shown[:2]).fewest(A), [0])
        self.assertEqual(Span(Realm(ones=4), *shown[:2]).fewest(A), [1])
        self.assertEqual(Span(Realm.nowhere(), *shown).fewest(A, B), [])
        self.assertEqual(Span(Realm()).fewest(), [])
        self.assertIsNone(Span(Realm()).fewest(A))

    def test_by_all_lists(self):
        made = Drawer(4)
        lengths = set()
        realms = small_realms()
        for realm in realms:
            for _ in range(3):
                shown = [made.form(["a", "b"], fitting(realm), most=3, great=4) for _ in range(5)]
                forms = []
                for _ in range(made.random.randint(1, 2)):
                    form = Form()
                    for part in made.random.sample(shown, 3):
                        form = form + part.scaled(made.random.randint(-2, 2))
                    forms.append(form)
                expected = None
                for size in range(6):
                    for chosen in combinations(range(5), size):
                        span = Span(realm, *[shown[at] for at in chosen])
                        if expected is None and all(span.order(form) == 1 for form in forms):
                            expected = list(chosen)
                found = Span(realm, *shown).fewest(*forms)
                self.assertEqual(found, expected, (realm, shown, forms))
                lengths.add(len(found))
        self.assertLessEqual({0, 1, 2, 3}, lengths)

    def test_all_eight(self):
        words = [(), ("a",), ("b",), ("a", "a"), ("a", "b"), ("b", "a"), ("b", "b"), ("c",)]
        span = Span(Realm(), *[Form([(word, 1, 1)]) for word in words])
        everything = Form([(word, 1, 1) for word in words])
        self.assertEqual(span.fewest(everything), list(range(8)))
        self.assertEqual(len(span), 8)

    def test_more_than_four_names_in_all(self):
        span = Span(Realm(ones=6), A, B)
        self.assertEqual(span.fewest(Form.read("a + 6*c"), Form.read("6*d*e + b"), Form.read("6*f*g")), [0, 1])
        self.assertIsNone(span.fewest(Form.read("a + 6*c"), Form.read("3*d*e + b")))

    def test_a_new_list(self):
        span = Span(Realm(), A, B)
        span.fewest(A).append(5)
        self.assertEqual(span.fewest(A), [0])


class ErrorsTest(unittest.TestCase):
    def test_span(self):
        many = [Form.word(name) for name in "abcdefghi"]
        fails(self, TooMany, {"most": 8}, Span, Realm(), *many)
        fails(self, TooMany, {"most": 8}, Span, Realm(), *[A.scaled(1, 2)] * 9)
        fails(self, NoInverse, {"number": 6}, Span, Realm(), *many[:6], A.scaled(1, 6), A.scaled(1, 2))
        fails(self, NoInverse, {"number": 4}, Span, Realm(ones=6), A.scaled(1, 5), A.scaled(1, 4), A.scaled(1, 2))
        fails(self, TooMany, {"most": 4}, Span, Realm(), *many[:5])
        fails(self, TooMany, {"most": 4}, Span, Realm(), Form.read("a*b + c*d + e"))
        self.assertEqual(len(Span(Realm(), *many[:4])), 4)
        self.assertEqual(len(Span(Realm.nowhere(), A.scaled(1, 6))), 1)

    def test_order_and_telling(self):
        span = Span(Realm(inverse=2), A, Form.read("b*c"))
        five = Form.read("d*e")
        for call in (span.order, span.telling, span.fewest):
            fails(self, NoInverse, {"number": 3}, call, five.scaled(1, 3))
            fails(self, TooMany, {"most": 4}, call, five)
            fails(self, TooMany, {"most": 4}, call, five.scaled(1, 2))
            call(Form.read("d*b + a"))

    def test_fewest(self):
        span = Span(Realm(inverse=2), A, Form.read("b*c"))
        five, third = Form.read("d*e"), Form.read("1/3*z*y")
        fails(self, TooMany, {"most": 4}, span.fewest, A, five, third)
        fails(self, NoInverse, {"number": 3}, span.fewest, A, third, five)
        fails(self, NoInverse, {"number": 3}, span.fewest, Form.read("q"), third)

    def test_parts(self):
        span = Span(Realm(), A, B)
        self.assertEqual((span.realm, span.shown, len(span), repr(span)), (Realm(), (A, B), 2, "Span(2 forms)"))
        self.assertEqual(repr(Span(Realm())), "Span(0 forms)")
        self.assertEqual(repr(Span(Realm(), A)), "Span(1 forms)")
        self.assertEqual(span.order(form=A), 1)
        self.assertIs(span.telling(form=A).holds(), True)
        for name in ("realm", "shown"):
            with self.assertRaises(AttributeError):
                setattr(span, name, 1)
        self.assertLessEqual(
            {"realm", "shown", "order", "telling", "fewest", "__init__", "__len__", "__repr__"}, names_of_methods(Span)
        )
        self.assertLessEqual({"span", "form", "shares", "holds", "__init__", "__bool__"}, names_of_methods(Told))
        self.assertLessEqual({"span", "form", "row", "holds", "__init__", "__bool__"}, names_of_methods(Untold))


class ToldTest(unittest.TestCase):
    def setUp(self):
        self.span = Span(Realm(inverse=2), Form.read("a + b"), Form.read("a - b"))

    def told(self, shares, form="a", span=None):
        paper = Told(self.span if span is None else span, Form.read(form), shares)
        self.assertIs(bool(paper), True)
        return paper

    def test_holds(self):
        self.assertIs(self.told([(1, 2), (1, 2)]).holds(), True)
        self.assertIs(self.told(((1, 2), (1, 2))).holds(), True)
        for shares in (
            [(1, 2), (-1, 2)], [(1, 2)], [], [(1, 2), (1, 2), (0, 1)], [(2, 4), (1, 2)], [(1, 2), [1, 2]], [(1, 2), 1],
            [(1, 2), None], [(True, 2), (1, 2)], [(1, -2), (1, 2)], "ab", None, 5, [(1, 2), (1, 0)],
        ):
            self.assertIs(self.told(shares).holds(), False, shares)
        self.assertIs(self.told([(1, 1), (1, 1)]).holds(), False)
        self.assertIs(self.told([(1, 1), (1, 1)], "2*a").holds(), True)
        self.assertIs(self.told([(1, 3), (1, 3)], "2/3*a").holds(), False)
        self.assertIs(Told(form=A, shares=[(1, 2), (1, 2)], span=self.span).holds(), True)

    def test_denominators(self):
        three = Span(Realm(), Form.read("3*a"))
        self.assertIs(self.told([(1, 3)], "a", three).holds(), False)
        self.assertIs(self.told([(1, 3)], "a", Span(Realm(inverse=3), Form.read("3*a"))).holds(), True)
        six = Span(Realm(ones=6), Form.read("5*a"))
        self.assertIs(self.told([(1, 5)], "a", six).holds(), True)
        self.assertIs(self.told([(5, 1)], "a", six).holds(), True)
        self.assertIs(self.told([(-1, 1)], "a", six).holds(), True)
        self.assertIs(self.told([(1, 1)], "a", six).holds(), False)
        nowhere = Span(Realm.nowhere(), A)
        self.assertIs(self.told([(7, 9)], "b + 1/5", nowhere).holds(), True)
        self.assertIs(self.told([], "b", Span(Realm.nowhere())).holds(), True)

    def test_alike_is_enough(self):
        span = Span(Realm.commuting(), Form.read("a*b"))
        self.assertIs(self.told([(1, 1)], "b*a", span).holds(), True)
        self.assertIs(self.told([(1, 1)], "b*a", Span(Realm(), Form.read("a*b"))).holds(), False)
        span = Span(Realm(ones=4, squares=2), A)
        self.assertIs(self.told([(3, 1)], "2*a*a + a", span).holds(), True)
        self.assertIs(self.told([(1, 1)], "2*a*a + a", span).holds(), False)

    def test_any_values(self):
        for value in ANY_VALUES:
            paper = self.told(value)
            self.assertIs(paper.holds(), False)
            self.assertTrue(same(paper.shares, tuple(value) if isinstance(value, list) else value))
            paper = self.told([(1, 2), value])
            self.assertIs(paper.holds(), same(value, (1, 2)))
            self.assertTrue(same(paper.shares, ((1, 2), value)))

    def test_lists_are_copied(self):
        shares = [(1, 2), (1, 2)]
        paper = self.told(shares)
        shares[0] = None
        self.assertEqual((paper.shares, paper.holds()), (((1, 2), (1, 2)), True))
        inner = [1]
        paper = self.told([inner, (2, inner)])
        inner.append(2)
        paper.shares[0].append(3)
        self.assertEqual(paper.shares, ([1], (2, [1])))

    def test_properties(self):
        paper = self.told([(1, 2), (1, 2)])
        self.assertEqual((paper.span, paper.form), (self.span, A))
        for name in ("span", "form", "shares"):
            with self.assertRaises(AttributeError):
                setattr(paper, name, 1)

    def test_a_form_that_does_not_fit(self):
        self.assertIs(Told(self.span, A.scaled(1, 3), [(1, 2), (1, 2)]).holds(), False)
        for row in ([(("a",), 1, 3)], [(("a",), 1, 1)], []):
            self.assertIs(Untold(self.span, A.scaled(1, 3), row).holds(), False)


class UntoldTest(unittest.TestCase):
    def setUp(self):
        self.span = Span(Realm(inverse=2), Form.read("3*a + b"))

    def untold(self, row, form="a", span=None):
        paper = Untold(self.span if span is None else span, Form.read(form), row)
        self.assertIs(bool(paper), False)
        return paper

    def test_holds(self):
        for row in (
            [(("a",), 1, 3)], ((("a",), 1, 3),), [(("a",), 2, 6)], [(("a",), -1, 3), (("b",), 4, 1)],
            [(("a",), 1, 3), (("b",), 0, 5)], [(("a",), 1, 3), ((), 1, 7)], [(("a",), 1, 7), (("b",), -3, 7)],
            [(("a",), 1, 3), (("b", "a"), 1, 9)], [(("a",), 1, 3), (("b",), 1, 2)],
            [(("a",), 5, HUGE * 3), (("b",), -15, 3 * HUGE)],
            [(("a",), 1, 6)],
        ):
            self.assertIs(self.untold(row).holds(), True, row)
        for row in (
            [], (), [(("a",), 1, 1)], [(("a",), 1, 2)], [(("a",), 1, 9)], [(("b",), 1, 3)],
            [(("a",), 1, 3), (("b",), 1, 3)],
            [(("a",), 1, 3), (("a",), 1, 3)], [(("a",), 1, 3), (("a",), 0, 1)], [(("a",), 1, 3), (("c",), 0, 1)],
            [(("a",), 1, 3), (("a", "c"), 1, 1)], [(["a"], 1, 3)], [[("a",), 1, 3]], [(("a",), 1, 0)],
            [(("a",), 1, -3)],
            [(("a",), 1)], [("a", 1, 3)], [(("a",), True, 3)], [(("a",), 1, 3), None],
            [(("a",), 1, 3), (("a", "a", "a"), 0, 1)],
            [((), 1, 3)], "ab", None, 7, [(("a",), 3, 3)],
        ):
            self.assertIs(self.untold(row).holds(), False, row)
        self.assertIs(Untold(row=[(("a",), 1, 3)], form=A, span=self.span).holds(), True)

    def test_names_of_the_form(self):
        self.assertIs(self.untold([(("c",), 1, 3)], "c").holds(), True)
        self.assertIs(self.untold([(("c",), 1, 3)], "a").holds(), False)
        self.assertIs(self.untold([(("c",), 1, 2)], "c").holds(), False)

    def test_rules(self):
        half = [(("a", "b"), 1, 2)]
        for realm, row, form, holds in (
            (Realm(), half, "a*b", True), (Realm.commuting(), half, "a*b", False),
            (Realm.commuting(), half + [(("b", "a"), 1, 2)], "a*b", True), (Realm(swaps=2), half, "a*b", True),
            (Realm(swaps=3), half, "a*b", False), (Realm(swaps=3), half + [(("b", "a"), 3, 2)], "a*b", True),
            (Realm(ones=4), half, "a*b", True), (Realm(ones=4, swaps=1), half, "a*b", False),
            (Realm(ones=3), half, "a*b", False),
            (Realm(ones=4), [(("a", "b"), 1, 4)], "a*b", True), (Realm(ones=4), [(("a", "b"), 1, 8)], "a*b", False),
            (Realm(ones=4), [(("a", "b"), 1, 12)], "a*b", True), (Realm(ones=4), [(("a", "b"), 1, 4)], "4*a*b", False),
            (Realm(squares=1), [(("a",), 1, 2)], "a", False), (Realm(squares=1), [(("a", "a"), 1, 2)], "a", False),
            (Realm(squares=1), [(("a",), 1, 2), (("a", "a"), 1, 2)], "a", True),
            (Realm(squares=2), [(("a",), 1, 2)], "a", True),
            (Realm(ones=4, squares=2), [(("a", "a"), 1, 4)], "a*a", False),
            (Realm(ones=4, squares=2), [(("a", "a"), 1, 4), (("a",), 3, 4)], "a*a", True),
            (Realm.nowhere(), half, "a*b", False), (Realm(inverse=2), half, "a*b", False),
            (Realm(ones=6), [((), 1, 6)], "1", True), (Realm(ones=6), [((), 1, 7)], "1", False),
        ):
            paper = self.untold(row, form, Span(realm))
            self.assertIs(paper.holds(), holds, (realm, row, form))

    def test_the_normal_forms_count(self):
        # The form b*a - a*b is zero where products commute, so no row shows that it is not told.
        span = Span(Realm(swaps=2))
        row = [(("b", "a"), 1, 2)]
        self.assertIs(self.untold(row, "b*a - a*b", span).holds(), True)
        self.assertIs(self.untold(row, "2*b*a - 2*a*b", span).holds(), False)

    def test_any_values(self):
        for value in ANY_VALUES:
            paper = self.untold(value)
            self.assertIs(paper.holds(), False)
            self.assertTrue(same(paper.row, tuple(value) if isinstance(value, list) else value))
            paper = self.untold([(("a",), 1, 3), value])
            self.assertIs(paper.holds(), False)
            self.assertTrue(same(paper.row, ((("a",), 1, 3), value)))

    def test_lists_are_copied(self):
        row = [(("a",), 1, 3)]
        paper = self.untold(row)
        row.clear()
        self.assertEqual((paper.row, paper.holds()), (((("a",), 1, 3),), True))
        inner = [1]
        paper = self.untold([inner])
        inner.append(2)
        paper.row[0].append(3)
        self.assertEqual(paper.row, ([1],))

    def test_a_row_shows_that_nothing_tells(self):
        made = Drawer(9)
        for realm in small_realms():
            shown = [made.form(["a", "b"], fitting(realm), most=3) for _ in range(2)]
            span = Span(realm, *shown)
            form = made.form(["a", "b"], fitting(realm), most=3)
            paper = span.telling(form)
            if not paper:
                # No shares make the form, and the row does not show it of a form that is told.
                for p, q in product(range(-3, 4), repeat=2):
                    self.assertIs(Told(span, form, [(p, 1), (q, 1)]).holds(), False)
                    total = shown[0].scaled(p) + shown[1].scaled(q)
                    self.assertIs(Untold(span, total, paper.row).holds(), False)
                self.assertTrue(all(isinstance(term, tuple) and len(term) == 3 for term in paper.row))


if __name__ == "__main__":
    unittest.main()
