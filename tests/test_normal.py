"""Normal forms in realms, and what parts two forms there."""

import unittest
from itertools import product

from drawn import Drawer, all_words
from numbertypes.errors import NoInverse, TooGreat
from numbertypes.forms import Form
from numbertypes.normal import alike, normal_form, parting
from numbertypes.realms import Realm
from samples import fails
from test_realms import small_realms

HUGE = 10**40


def fitting(realm, most=12):
    return [q for q in range(1, most) if realm.has_inverse(q)]


def rules(realm, names):
    """The rules of [18]: forms that are zero in all rings of the realm."""
    found = [Form([(word, realm.ones, 1)]) for word in all_words(names)]
    for a in names:
        found.append(Form([((a, a), realm.squares, 1), ((a,), -realm.squares, 1)]))
        for b in names:
            if a != b:
                found.append(Form([((a, b), realm.swaps, 1), ((b, a), -realm.swaps, 1)]))
    return found


def normal_by_hand(form, realm):
    """The normal form as [17] tells it, step by step, for any names."""
    if not realm:
        return Form()
    names = form.names()
    shares = {word: form.share_of(*word) for word in all_words(names)}

    def rest(share, modulus):
        return next(k for k in range(modulus) if (share[1] * k - share[0]) % modulus == 0)

    def less(share, number):
        return (share[0] - number * share[1], share[1])

    def plus(one, other):
        return (one[0] * other[1] + other[0] * one[1], one[1] * other[1])

    if realm.ones > 0:
        shares = {word: (rest(share, realm.ones), 1) for word, share in shares.items()}
    for a in names:
        for b in names:
            if a < b and realm.swaps > 0:
                v = shares[b, a]
                r = rest(v, realm.swaps)
                shares[b, a] = (r, 1)
                shares[a, b] = plus(shares[a, b], less(v, r))
    if realm.ones > 0:
        for a in names:
            v = shares[a, a]
            r = rest(v, realm.squares)
            shares[a, a] = (r, 1)
            shares[a,] = plus(shares[a,], less(v, r))
        shares = {word: (rest(share, realm.ones), 1) for word, share in shares.items()}
    return Form([(word, p, q) for word, (p, q) in shares.items()])


class NormalFormTest(unittest.TestCase):
    def test_examples(self):
        for realm, text, expected in (
            (Realm(inverse=3), "7/3*b*a - a", "7/3*b*a - a"), (Realm.commuting(), "7*b*a - a*b + 1/1", "6*a*b + 1"),
            (Realm(swaps=3), "7*b*a - a*b", "5*a*b + b*a"), (Realm(swaps=3), "-b*a", "-3*a*b + 2*b*a"),
            (Realm(ones=6), "7*b*a - a*b + 1/5*a", "5*a*b + b*a + 5*a"),
            (Realm(ones=6, swaps=2), "5*b*a", "4*a*b + b*a"),
            (Realm(ones=6, squares=3), "5*a*a", "2*a*a + 3*a"), (Realm(squares=1), "a*a + b*a + a*b", "a"),
            (Realm(ones=6, squares=3), "-1/5 + 7*a", "a + 1"), (Realm.nowhere(), "a*b - 1/7*b", "0"),
            (Realm(inverse=2, swaps=3), "1/2*b*a", "-3/2*a*b + 2*b*a"), (Realm(inverse=2), "1/2*b*a", "1/2*b*a"),
            (Realm(ones=4, squares=2), "3*a*a + 3*b*b + 3*b", "a*a + b*b + 2*a + b"),
        ):
            self.assertEqual(normal_form(Form.read(text), realm).text(), expected, (realm, text))
        self.assertEqual(normal_form(realm=Realm(ones=2), form=Form.read("3*a")), Form.read("a"))

    def test_by_hand(self):
        made = Drawer(2)
        for realm in small_realms():
            for _ in range(12):
                form = made.form(["b", "c", "a"], fitting(realm), most=6, great=30)
                normal = normal_form(form, realm)
                self.assertEqual(normal, normal_by_hand(form, realm), (realm, form))
                self.assertEqual(normal_form(normal, realm), normal)

    def test_forms_that_are_alike_have_one_normal_form(self):
        made = Drawer(3)
        for realm in small_realms():
            names = ["a", "b"]
            shown = rules(realm, names)
            for _ in range(6):
                form = made.form(names, fitting(realm))
                other = form
                for rule in made.random.sample(shown, 3):
                    other = other + rule.scaled(made.random.randint(-3, 3), made.random.choice(fitting(realm)))
                self.assertEqual(normal_form(form, realm), normal_form(other, realm), (realm, form, other))
                self.assertIs(alike(form, other, realm), True)

    def test_forms_that_are_alike_have_equal_values(self):
        made = Drawer(4)
        names = ["a", "b"]
        for realm in small_realms():
            if not realm:
                continue
            ring = realm.sample()
            things = list(ring.things()) if ring.size() is not None and ring.size() <= 16 else None
            forms = [made.form(names, fitting(realm), most=3, great=3) for _ in range(7)]
            for one, other in product(forms, repeat=2):
                same_normal = normal_form(one, realm) == normal_form(other, realm)
                self.assertIs(alike(one, other, realm), same_normal)
                if things is not None:
                    equal = all(
                        one.value(ring, {"a": x, "b": y}) == other.value(ring, {"a": x, "b": y})
                        for x in things for y in things
                    )
                    self.assertIs(equal, same_normal, (realm, one, other))

    def test_great_numbers(self):
        realm = Realm(ones=HUGE + 9, swaps=1)
        form = Form([(("b", "a"), 10**5000, 10**4000 + 1), ((), -1, 3)])
        if realm.has_inverse(form.divisor):
            normal = normal_form(form, realm)
            p = normal.share_of("a", "b")[0]
            self.assertEqual((p * (10**4000 + 1) - 10**5000) % (HUGE + 9), 0)
            self.assertEqual(normal.divisor, 1)

    def test_forms_that_do_not_fit(self):
        half, third = Form.read("1/2*a + 1/4"), Form.read("1/3*b")
        for realm, form, number in (
            (Realm(), half, 4), (Realm(inverse=3), half, 4), (Realm(ones=6), half, 4), (Realm(ones=6), third, 3),
            (Realm.commuting(), half + third, 12), (Realm(inverse=2), half + third, 12),
            (Realm(ones=8), half + third, 12),
        ):
            fails(self, NoInverse, {"number": number}, normal_form, form, realm)
            for call in (alike, parting):
                fails(self, NoInverse, {"number": number}, call, form, Form(), realm)
                fails(self, NoInverse, {"number": number}, call, Form.word("a"), form, realm)
                fails(self, NoInverse, {"number": number}, call, form, form, realm)
        fails(self, NoInverse, {"number": 4}, alike, half, third, Realm())
        fails(self, NoInverse, {"number": 3}, parting, third, half, Realm(ones=12))
        self.assertEqual(normal_form(half, Realm.nowhere()), Form())
        self.assertIs(alike(half, third, Realm.nowhere()), True)
        self.assertIsNone(parting(half, third, Realm.nowhere()))


class PartingTest(unittest.TestCase):
    def check(self, one, other, realm):
        found = parting(one, other, realm)
        self.assertIs(found is None, alike(one, other, realm))
        if found is not None:
            self.assertIsInstance(found, tuple)
            ring, things = found
            self.assertIn(ring, realm)
            self.assertEqual(set(things), set(one.names()) | set(other.names()))
            self.assertTrue(all(ring.is_thing(thing) for thing in things.values()))
            self.assertNotEqual(one.value(ring, things), other.value(ring, things))
        return found

    def test_drawn_forms(self):
        made = Drawer(5)
        parted = 0
        for realm in small_realms():
            for _ in range(20):
                one = made.form(["b", "a", "c"], fitting(realm))
                other = one + made.form(["a", "d"], fitting(realm), most=2, great=12)
                parted += self.check(one, other, realm) is not None
        self.assertGreater(parted, 500)

    def test_one_difference(self):
        names = ["a", "b"]
        base = Form.read("3*a*b + 2*a - 1")
        for realm in small_realms():
            for word in all_words(names):
                for k in (1, 2, 3, 4, 6, 12):
                    self.check(base, base + Form([(word, k, 1)]), realm)
            for rule in rules(realm, names):
                self.assertIsNone(self.check(base, base + rule, realm))
                for k in (2, 3):
                    if all(rule.share_of(*word)[0] % k == 0 for word in rule.words()):
                        self.check(base, base + rule.scaled(1, k), realm)

    def test_names_of_both_forms(self):
        ring, things = parting(Form.read("a - a*z + z*a"), Form.read("b + y - y"), Realm.commuting())
        self.assertEqual(set(things), {"a", "b", "z"})
        self.assertNotEqual(things["a"], things["b"])
        ring, things = parting(other=Form(), one=Form.read("7"), realm=Realm(ones=4))
        self.assertEqual(things, {})
        self.assertIn(ring, Realm(ones=4))

    def test_many_names(self):
        names = [one + other for one in "abcdefgh" for other in "abcdefgh"]
        one = Form([((a, b), 1, 1) for a in names for b in names if a < b])
        other = Form([((b, a), 1, 1) for a in names for b in names if a < b])
        self.check(one, other, Realm())
        self.assertIsNone(self.check(one, other, Realm.commuting()))

    def test_too_great(self):
        one, other = Form.word("a"), Form.word("b")
        for realm in (Realm(ones=1000001), Realm(swaps=1000001), Realm(inverse=999983) & Realm(inverse=2)):
            fails(self, TooGreat, {"most": 1000000}, parting, one, other, realm)
            self.assertIsNone(parting(one, one, realm))
            fails(self, NoInverse, {"number": HUGE + 3}, parting, one, other.scaled(1, HUGE + 3), Realm(swaps=1000001))


if __name__ == "__main__":
    unittest.main()
