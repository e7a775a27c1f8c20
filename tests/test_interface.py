"""The interface of the document: where each name stands, and the names and kinds of all arguments."""

import importlib
import inspect
import unittest

from numbertypes.builds import Matrices
from numbertypes.fits import agreement, fits, realm_of, verdict
from numbertypes.forms import Form
from numbertypes.integers import divides, is_int, is_name, is_share, radical, share, stripped
from numbertypes.nests import cost, depth_ones
from numbertypes.normal import alike, normal_form, parting
from numbertypes.programs import Program
from numbertypes.programtexts import read_program
from numbertypes.products import Factored, divisors, least_products, program_of
from numbertypes.realms import Realm
from numbertypes.rings import Rests
from numbertypes.ringtexts import read_ring
from numbertypes.schemes import Scheme
from numbertypes.shelves import Shelf
from numbertypes.spans import Span, Told, Untold
from numbertypes.sums import Sums
from numbertypes.tables import Table, table_of
from numbertypes.unseen import Unseen
from numbertypes.wishes import Wish
from test_nests import single
from test_shelves import SQUARE, stocked

# The functions and classes of each module; a class by the arguments of its constructor.
MODULES = {
    "integers": """is_int(value) is_name(value) is_share(value) common(*numbers) multiple(*numbers)
        divides(one, other) radical(number) stripped(number, base) share(p, q=1)""",
    "rings": "Whole(inverse=1) Fractions() Rests(modulus) Sets(points)",
    "builds": "Matrices(size, base) Triangles(base) Polynomials(base) Duals(base) Roots(square, base)",
    "wider": "Words(letters, base) Pairs(one, other) Quaternions(base) Swapped(base) Twists(part, base)",
    "tables": "Table(plus, times) table_of(ring)",
    "ringtexts": "read_ring(text)",
    "forms": "Form(terms=())",
    "programs": "Program(inputs, steps, outputs, *, procedures=())",
    "programtexts": "read_program(text)",
    "wishes": "Wish(*forms)",
    "realms": "Realm(*, inverse=1, ones=0, swaps=0, squares=0)",
    "fits": """realm_of(program, wish) fits(program, wish, ring) agreement(one, other) Verdict(program, wish, ring)
        Right(program, wish, ring) Fails(program, wish, ring, inputs, output) Stops(program, wish, ring, divisor)
        verdict(program, wish, ring)""",
    "normal": "normal_form(form, realm) alike(one, other, realm) parting(one, other, realm)",
    "spans": "Span(realm, *forms) Told(span, form, shares) Untold(span, form, row)",
    "products": """divisors(form) least_products(form, *, modulus=0) Factored(form, modulus, pairs, rest)
        program_of(factored)""",
    "sums": "Sums(inputs, lines, outputs)",
    "schemes": "Scheme(sizes, products)",
    "nests": """nested(*schemes) nested_table(*tables) row_ones(*layers) depth_ones(scheme, table, depth)
        cost(scheme, depth)""",
    "unseen": "Unseen()",
    "shelves": "Shelf(*, limit=12)",
    "pages": "write_page(shelf) read_page(text) columns(realms)",
    "desk": "Desk(*, shelf=None)",
}

# The methods of each class; a name without parentheses is a property, one with a dot is a static method.
CLASSES = {
    "rings.Ring": """ones swaps squares depth text() has_inverse(q) size() is_thing(value) zero() one() plus(x, y)
        minus(x, y) product(x, y) negative(x) times(k, x) share(p, q=1) square_breaker(k) swap_breaker(k) things()
        __eq__ __repr__""",
    "tables.Table": "rows()",
    "forms.Form": """.read(text) .word(*names) degree divisor text() words() names() share_of(*names) scaled(p, q=1)
        value(ring, things) __add__ __sub__ __neg__ __mul__ __len__ __eq__ __repr__""",
    "programs.Program": """inputs steps outputs procedures divisor text() forms() form_of(name) executed(word) flat()
        run(ring, *things) __len__ __eq__ __repr__""",
    "wishes.Wish": ".read(text) forms() text() __len__ __eq__ __repr__",
    "realms.Realm": """.everywhere() .commuting() .nowhere() inverse ones swaps squares within(other) has_inverse(q)
        sample() __contains__ __and__ __or__ __bool__ __eq__ __repr__""",
    "fits.Verdict": "program wish ring told() holds() __bool__ __repr__",
    "fits.Right": "told() holds() __bool__",
    "fits.Fails": "told() holds() __bool__ inputs output",
    "fits.Stops": "told() holds() __bool__ divisor",
    "spans.Span": "realm shown order(form) telling(form) fewest(*forms) __len__ __repr__",
    "spans.Told": "span form shares holds() __bool__",
    "spans.Untold": "span form row holds() __bool__",
    "products.Factored": "form modulus pairs rest holds() __len__",
    "sums.Sums": "inputs lines outputs adds table() values(ring, *things) turned() __eq__ __repr__",
    "schemes.Scheme": """sizes products adds table() .of(program, left) turned(order) run(ring, lefts, rights)
        right_ones(table) __len__ __eq__ __repr__""",
    "unseen.Unseen": """note(realm, right) note_program(program, wish, *, right=True) withdraw(number) verdicts() meet()
        judge(realm) rings(realm) needless() walk(right) undo() redo() history() twin() __len__ __eq__ __repr__""",
    "shelves.Shelf": """limit set_limit(value) apply(*commands) undo() redo() history() busy names(*, kind=None)
        item(name) promises() realm_for(program, wish) fits(program, wish, ring) computed kept() twin() __contains__
        __len__ __eq__ __repr__""",
    "desk.Desk": "say(line) __call__(line) shelf() log() __len__ __repr__",
}

VALUES = {"rings.Ring": {"MOST_THINGS": 5000, "MOST_DEPTH": 4}, "unseen.Unseen": {"MOST": 40},
          "shelves.Shelf": {"MOST": 20}}


def entries(text):
    """The entries of a text: words, with everything within their parentheses."""
    found = [""]
    for sign in " ".join(text.split()):
        if sign == " " and found[-1].count("(") == found[-1].count(")"):
            found.append("")
        else:
            found[-1] += sign
    return found


def signature(head):
    """The parameters of an entry, as Python reads them: their names, kinds and defaults."""
    space = {}
    exec(f"def {head}: pass", space)
    return parameters(space[head.partition("(")[0]])


def parameters(function, skipped=0):
    found = list(inspect.signature(function).parameters.values())[skipped:]
    return [(one.name, one.kind, one.default) for one in found]


def found_class(word):
    module, _, name = word.partition(".")
    return getattr(importlib.import_module("numbertypes." + module), name)


class NamesTest(unittest.TestCase):
    def test_modules(self):
        for module, text in MODULES.items():
            for head in entries(text):
                name = head.partition("(")[0]
                value = getattr(importlib.import_module("numbertypes." + module), name)
                self.assertEqual(value.__module__, "numbertypes." + module)
                if inspect.isclass(value):
                    self.assertIn("__init__", value.__dict__)
                    self.assertEqual(parameters(value.__init__, 1), signature(head), head)
                else:
                    self.assertTrue(inspect.isfunction(value))
                    self.assertEqual(parameters(value), signature(head), head)

    def test_classes(self):
        for word, text in CLASSES.items():
            kind = found_class(word)
            for head in entries(text):
                name = head.lstrip(".").partition("(")[0]
                value = kind.__dict__[name]
                if head.startswith("."):
                    self.assertIsInstance(value, staticmethod)
                    self.assertEqual(parameters(value.__func__), signature(head[1:]), (word, head))
                elif "(" in head:
                    self.assertTrue(inspect.isfunction(value))
                    self.assertEqual(parameters(value, 1), signature(head), (word, head))
                elif head.startswith("__"):
                    self.assertTrue(inspect.isfunction(value), (word, head))
                else:
                    self.assertIsInstance(value, property)
                    self.assertIs(value.fset is None, head != "limit")

    def test_class_values(self):
        for word, values in VALUES.items():
            for name, value in values.items():
                self.assertEqual(found_class(word).__dict__[name], value)

    def test_generators(self):
        self.assertTrue(inspect.isgeneratorfunction(found_class("rings.Ring").things))
        self.assertTrue(inspect.isgeneratorfunction(found_class("unseen.Unseen").walk))

    def test_rings_are_rings(self):
        for module in ("rings", "builds", "wider"):
            for head in entries(MODULES[module]):
                kind = found_class(module + "." + head.partition("(")[0])
                self.assertTrue(issubclass(kind, found_class("rings.Ring")))


class ArgumentsTest(unittest.TestCase):
    def test_integers_and_rings_by_name(self):
        self.assertEqual([is_int(value=3), is_name(value="a"), is_share(value=(1, 2))], [True] * 3)
        self.assertEqual([divides(other=6, one=3), radical(number=12), stripped(base=2, number=12)], [True, 6, 3])
        self.assertEqual(share(q=4, p=2), (1, 2))
        ring = Rests(modulus=6)
        self.assertEqual([ring.plus(y=2, x=5), ring.minus(y=2, x=1), ring.product(y=3, x=5)], [1, 5, 3])
        self.assertEqual([ring.negative(x=2), ring.times(x=2, k=5), ring.share(q=5, p=2)], [4, 4, 4])
        self.assertEqual([ring.has_inverse(q=5), ring.is_thing(value=6)], [True, False])
        self.assertEqual([ring.square_breaker(k=3), ring.swap_breaker(k=1)], [None, None])
        self.assertEqual(Matrices(base=Rests(2), size=2), read_ring(text="matrices(2, rests(2))"))
        table = table_of(ring=Rests(2))
        plus, times = table.rows()
        self.assertEqual(Table(times=times, plus=plus), table)

    def test_forms_and_programs_by_name(self):
        form = Form(terms=[(("a",), 3, 1)])
        self.assertEqual([form, form.scaled(q=2, p=1)], [Form.read(text="3*a"), Form.read("3/2*a")])
        self.assertEqual(form.value(things={"a": 4}, ring=Rests(10)), 2)
        program = Program(procedures=[], outputs=["y"], steps=[("multiply", "y", "x", "x")], inputs=["x"])
        self.assertEqual(program, read_program(text=SQUARE))
        self.assertEqual([program.form_of(name="y"), program.executed(word="multiply")], [Form.read("x*x"), 1])
        self.assertEqual(Wish.read(text="x\n"), Wish(Form.word("x")))

    def test_realms_and_papers_by_name(self):
        program, wish, ring = read_program(SQUARE), Wish.read("x\n"), Rests(2)
        realm = realm_of(wish=wish, program=program)
        self.assertEqual([realm.within(other=Realm()), realm.has_inverse(q=3)], [True, True])
        self.assertIs(fits(ring=ring, wish=wish, program=program), True)
        self.assertEqual(agreement(other=program, one=program), Realm())
        self.assertIs(verdict(ring=ring, wish=wish, program=program).holds(), True)
        one, other = Form.read("x*x"), Form.read("x")
        self.assertEqual(normal_form(realm=realm, form=one), other)
        self.assertEqual([alike(realm=realm, other=other, one=one), parting(realm=realm, other=other, one=one)],
                         [True, None])
        span = Span(realm, one)
        self.assertEqual([span.order(form=other), span.telling(form=other).holds()], [1, True])
        self.assertIs(Told(shares=[(1, 1)], form=other, span=span).holds(), True)
        self.assertIs(Untold(row=[], form=other, span=span).holds(), False)

    def test_products_and_schemes_by_name(self):
        form = Form.read("a*b")
        paper = least_products(modulus=5, form=form)
        self.assertEqual([divisors(form=form), len(paper), program_of(factored=paper).divisor], [[1, 0], 1, 1])
        self.assertIs(Factored(rest=paper.rest, pairs=paper.pairs, modulus=5, form=form).holds(), True)
        self.assertEqual(Sums(outputs=["a"], lines=[], inputs=["a"]).table(), [[1]])
        scheme = Scheme(products=[([2], [1], [1])], sizes=(1, 1, 1))
        self.assertEqual(scheme, single(2))
        self.assertEqual(scheme.run(rights=[4], ring=Rests(10), lefts=[3]), [4])
        self.assertEqual([scheme.turned(order=(2, 1, 0)).sizes, scheme.right_ones(table=[[[5]]])], [(1, 1, 1), 3])
        self.assertEqual([depth_ones(depth=3, table=[[[1]]], scheme=scheme), cost(depth=2, scheme=scheme)], [7, (1, 0)])

    def test_logs_and_shelves_by_name(self):
        log = Unseen()
        self.assertEqual([log.note(right=True, realm=Realm()), log.judge(realm=Realm())], [1, "right"])
        self.assertEqual([log.rings(realm=Realm())[1], list(log.walk(right=False)), log.withdraw(number=1)],
                         [None, [], None])
        shelf = stocked()
        self.assertEqual(shelf.realm_for(wish="same", program="sq"), Realm(squares=1))
        self.assertEqual([shelf.fits(ring="bits", wish="same", program="sq"), shelf.names(kind="wish")],
                         [True, ["plus", "same"]])
        self.assertEqual([shelf.item(name="bits").size(), shelf.set_limit(value=9), Shelf(limit=9).limit], [4, None, 9])


if __name__ == "__main__":
    unittest.main()
