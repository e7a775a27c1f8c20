"""Logs of verdicts on a ring that nobody has seen: what is sound, what a log tells, and its steps."""

import types
import unittest
from random import Random

from numbertypes.errors import Full, NothingLeft, TooGreat, UnknownName, UnknownNumber, Unsound, WrongCount
from numbertypes.fits import realm_of
from numbertypes.programtexts import read_program
from numbertypes.realms import Realm
from numbertypes.unseen import Unseen
from numbertypes.wishes import Wish
from samples import ANY_VALUES, fails, same
from test_forms import names_of_methods

SQUARE = read_program("in x\ny = x * x\nout y\n")


def closed(realms):
    """The realms and all meets of some of them, each once, with samples of those that are not empty."""
    found = {repr(realm): realm for realm in realms}
    while True:
        more = {repr(one & other): one & other for one in found.values() for other in found.values()}
        if set(more) <= set(found):
            return list(found.values()), [realm.sample() for realm in found.values() if realm]
        found.update(more)


REALMS, RINGS = closed([
    Realm(), Realm(inverse=2), Realm(inverse=3), Realm(swaps=1), Realm(swaps=2), Realm(swaps=6), Realm(ones=12),
    Realm(ones=18), Realm(squares=2), Realm(ones=4), Realm(ones=12, swaps=1), Realm(ones=5), Realm(squares=1),
])


def holding(verdicts):
    """The sample rings for which all verdicts hold."""
    return [ring for ring in RINGS if all((ring in realm) is right for _, realm, right in verdicts)]


def judged(verdicts, realm):
    """What verdicts tell of a realm, by the rings for which they hold."""
    inside = [ring in realm for ring in holding(verdicts)]
    return "right" if all(inside) else "open" if any(inside) else "wrong"


def drawn_log(random, count, wrong=0.6):
    """A log after so many tries to note something."""
    log = Unseen()
    for _ in range(count):
        try:
            log.note(random.choice(REALMS), random.random() >= wrong)
        except Unsound:
            pass
    return log


def state_of(log):
    return (log.verdicts(), log.history(), repr(log), len(log))


class NoteTest(unittest.TestCase):
    def expected_number(self, log, realm, right):
        """The number with which a verdict is refused, or None, by the rings."""
        verdicts = log.verdicts()
        if holding(verdicts + [(None, realm, right)]):
            return None
        if not right or not holding([one for one in verdicts if one[2]] + [(None, realm, right)]):
            return 0
        rights = [one for one in verdicts if one[2]] + [(None, realm, right)]
        return min(one[0] for one in verdicts if not one[2] and not holding(rights + [one]))

    def test_drawn_verdicts(self):
        random = Random(1)
        refused = []
        for _ in range(60):
            log = Unseen()
            free = 1
            for _ in range(25):
                realm, right = random.choice(REALMS), random.random() < 0.4
                number = self.expected_number(log, realm, right)
                before = state_of(log)
                if number is None:
                    self.assertTrue(same(log.note(realm, right), free))
                    self.assertEqual(log.verdicts(), before[0] + [(free, realm, right)])
                    free += 1
                else:
                    fails(self, Unsound, {"number": number}, log.note, realm, right)
                    self.assertEqual(state_of(log), before)
                    refused.append((right, number))
                if log.verdicts() and random.random() < 0.2:
                    log.withdraw(random.choice(log.verdicts())[0])
                self.assertNotEqual(holding(log.verdicts()), [])
        self.assertIn((False, 0), refused)
        self.assertIn((True, 0), refused)
        self.assertGreater(len({number for right, number in refused}), 8)

    def test_by_hand(self):
        log = Unseen()
        self.assertEqual(log.note(Realm(swaps=6), True), 1)
        self.assertEqual([log.judge(Realm(swaps=12)), log.judge(Realm(swaps=4))], ["right", "open"])
        self.assertEqual(log.note(right=False, realm=Realm(swaps=4)), 2)
        self.assertEqual([log.judge(Realm(swaps=2)), log.judge(Realm(ones=9))], ["wrong", "open"])
        fails(self, Unsound, {"number": 2}, log.note, Realm(swaps=2), True)
        fails(self, Unsound, {"number": 0}, log.note, Realm(swaps=6), False)
        fails(self, Unsound, {"number": 0}, log.note, Realm(), False)
        fails(self, Unsound, {"number": 0}, log.note, Realm.nowhere(), True)
        self.assertEqual(log.note(Realm.nowhere(), False), 3)
        self.assertEqual(log.note(Realm(), True), 4)
        self.assertEqual(repr(log), "Unseen(2 right, 2 wrong)")

    def test_the_empty_meet_goes_first(self):
        log = Unseen()
        log.note(Realm.nowhere(), False)
        log.note(Realm(ones=2), True)
        fails(self, Unsound, {"number": 0}, log.note, Realm(ones=3), True)
        fails(self, Unsound, {"number": 0}, log.note, Realm.nowhere(), True)

    def test_the_first_wrong_verdict(self):
        log = Unseen()
        log.note(Realm(ones=5), False)
        log.note(Realm(swaps=2), False)
        log.note(Realm(swaps=1), False)
        fails(self, Unsound, {"number": 2}, log.note, Realm(swaps=1), True)
        log.withdraw(2)
        fails(self, Unsound, {"number": 3}, log.note, Realm(swaps=1), True)
        log.withdraw(3)
        self.assertEqual(log.note(Realm(swaps=1), True), 4)

    def test_full(self):
        log = Unseen()
        self.assertTrue(same(Unseen.MOST, 40))
        for number in range(1, 41):
            self.assertEqual(log.note(Realm(), True), number)
        before = state_of(log)
        for right in (True, False):
            fails(self, Full, {"most": 40}, log.note, Realm.nowhere(), right)
            fails(self, Full, {"most": 40}, log.note_program, SQUARE, Wish.read("y\n0\n"), right=right)
        self.assertEqual(state_of(log), before)
        log.withdraw(7)
        self.assertEqual(log.note(Realm(), True), 41)
        fails(self, Full, {"most": 40}, log.note, Realm(), True)
        log.undo()
        self.assertEqual(log.note(Realm(), True), 41)

    def test_new_lists(self):
        log = Unseen()
        log.note(Realm(), True)
        log.verdicts().append(3)
        self.assertTrue(same(log.verdicts()[0][0], 1))
        self.assertEqual(log.verdicts(), [(1, Realm(), True)])
        self.assertIs(log.verdicts()[0][2], True)


class NoteProgramTest(unittest.TestCase):
    def test_as_note(self):
        for text in ("x\n", "x*x + 6\n", "x*x\n", "2*x*x + 5*x\n", "1\n"):
            wish = Wish.read(text)
            for right in (True, False):
                one, other = Unseen(), Unseen()
                try:
                    number = one.note(realm_of(SQUARE, wish), right)
                except Unsound as error:
                    fails(self, Unsound, {"number": error.number}, other.note_program, SQUARE, wish, right=right)
                else:
                    self.assertEqual(other.note_program(SQUARE, wish, right=right), number)
                self.assertEqual(one, other)
        log = Unseen()
        self.assertEqual(log.note_program(wish=Wish.read("x\n"), program=SQUARE), 1)
        self.assertEqual(log.verdicts(), [(1, Realm(squares=1), True)])
        self.assertEqual(log.note_program(SQUARE, Wish.read("0\n"), right=False), 2)
        with self.assertRaises(TypeError):
            log.note_program(SQUARE, Wish.read("x\n"), True)

    def test_errors(self):
        log = Unseen()
        log.note(Realm(ones=3), True)
        fails(self, WrongCount, {"given": 2}, log.note_program, SQUARE, Wish.read("y\n0\n"))
        fails(self, UnknownName, {"name": "a"}, log.note_program, SQUARE, Wish.read("y + b*a\n"), right=False)
        fails(self, Unsound, {"number": 0}, log.note_program, SQUARE, Wish.read("x\n"))
        self.assertEqual(state_of(log), ([(1, Realm(ones=3), True)], (1, 0), "Unseen(1 right, 0 wrong)", 1))


class WithdrawTest(unittest.TestCase):
    def test_numbers_are_not_used_again(self):
        log = Unseen()
        log.note(Realm(swaps=1), True)
        log.note(Realm(swaps=2), True)
        self.assertIsNone(log.withdraw(number=2))
        self.assertEqual(log.verdicts(), [(1, Realm(swaps=1), True)])
        self.assertEqual(log.note(Realm(swaps=4), True), 3)
        log.withdraw(1)
        self.assertEqual(log.verdicts(), [(3, Realm(swaps=4), True)])
        log.withdraw(3)
        self.assertEqual((log.verdicts(), log.meet(), len(log)), ([], Realm(), 0))
        self.assertEqual(log.note(Realm(swaps=4), True), 4)

    def test_unknown_numbers(self):
        log = Unseen()
        fails(self, UnknownNumber, {"number": 1}, log.withdraw, 1)
        for realm in REALMS[:2]:
            log.note(realm, True)
        for value in (True, "1", [1], (1,)):
            fails(self, UnknownNumber, {"number": value}, log.withdraw, value)
        log.withdraw(1)
        before = state_of(log)
        for value in ANY_VALUES:
            if not same(value, 2):
                fails(self, UnknownNumber, {"number": value}, log.withdraw, value)
        self.assertEqual(state_of(log), before)


class TellingTest(unittest.TestCase):
    def test_judge_by_the_rings(self):
        random = Random(2)
        words = []
        for _ in range(40):
            log = drawn_log(random, 8)
            for realm in REALMS:
                word = log.judge(realm)
                self.assertEqual(word, judged(log.verdicts(), realm), (log.verdicts(), realm))
                words.append(word)
        self.assertGreater(min(words.count(word) for word in ("right", "wrong", "open")), 100)

    def test_meet(self):
        random = Random(3)
        for _ in range(40):
            log = drawn_log(random, 8, wrong=0.3)
            for ring in RINGS:
                expected = all(ring in realm for _, realm, right in log.verdicts() if right)
                self.assertIs(ring in log.meet(), expected)
        self.assertEqual(Unseen().meet(), Realm.everywhere())

    def test_rings(self):
        random = Random(4)
        seen = set()
        for _ in range(40):
            log = drawn_log(random, 8)
            for realm in REALMS:
                found = log.rings(realm=realm)
                self.assertIs(type(found), tuple)
                inside, outside = found
                self.assertIs(inside is None, log.judge(realm) == "wrong")
                self.assertIs(outside is None, log.judge(realm) == "right")
                seen.add((inside is None, outside is None))
                for ring, belongs in ((inside, True), (outside, False)):
                    if ring is not None:
                        self.assertIs(ring in realm, belongs)
                        for _, other, right in log.verdicts():
                            self.assertIs(ring in other, right, (log.verdicts(), realm, ring))
        self.assertEqual(seen, {(False, False), (True, False), (False, True)})

    def test_rings_that_are_too_great(self):
        great = Realm(swaps=1000001)
        log = Unseen()
        fails(self, TooGreat, {"most": 1000000}, log.rings, great)
        self.assertIsNone(log.rings(Realm.nowhere())[0])
        self.assertEqual(log.rings(Realm())[1], None)
        log.note(great, True)
        # The ring inside can be made, the one outside cannot.
        fails(self, TooGreat, {"most": 1000000}, log.rings, Realm(swaps=1))
        fails(self, TooGreat, {"most": 1000000}, log.rings, Realm.nowhere())
        log.note(Realm(swaps=101), True)
        self.assertEqual(log.meet(), Realm(swaps=101))
        self.assertEqual([ring is None for ring in log.rings(great)], [False, True])

    def test_nothing_is_changed(self):
        log = drawn_log(Random(5), 8)
        before = state_of(log)
        for realm in REALMS:
            log.judge(realm)
            log.rings(realm)
        log.needless()
        list(log.walk(True))
        log.meet()
        self.assertEqual(state_of(log), before)


class NeedlessTest(unittest.TestCase):
    def test_by_judging_all_realms(self):
        random = Random(6)
        counts = [0, 0]
        for _ in range(40):
            log = drawn_log(random, 9)
            told = [log.judge(realm) for realm in REALMS]
            found = []
            for number, _, right in log.verdicts():
                less = log.twin()
                less.withdraw(number)
                if [less.judge(realm) for realm in REALMS] == told:
                    found.append(number)
                    counts[right] += 1
            self.assertEqual(log.needless(), found, log.verdicts())
        self.assertGreater(min(counts), 10)

    def test_by_hand(self):
        log = Unseen()
        self.assertEqual(log.needless(), [])
        log.note(Realm(swaps=6), True)
        log.note(Realm(swaps=4), False)
        log.note(Realm(swaps=2), False)
        self.assertEqual(log.needless(), [2, 3])
        log.note(Realm(swaps=12), True)
        self.assertEqual(log.needless(), [2, 3, 4])
        log.withdraw(2)
        self.assertEqual(log.needless(), [4])
        log.note(Realm.nowhere(), False)
        self.assertEqual(log.needless(), [4, 5])
        log.note(Realm(swaps=6), True)
        self.assertEqual(log.needless(), [1, 4, 5, 6])


class WalkTest(unittest.TestCase):
    def test_order(self):
        random = Random(7)
        for _ in range(10):
            log = drawn_log(random, 12)
            for sort in (True, False):
                walk = log.walk(right=sort)
                self.assertIsInstance(walk, types.GeneratorType)
                self.assertEqual(list(walk), [realm for _, realm, right in log.verdicts() if right is sort])
        self.assertEqual(list(Unseen().walk(True)), [])

    def test_a_log_that_changes(self):
        log = Unseen()
        log.note(Realm(swaps=4), True)
        log.note(Realm(swaps=2), True)
        walk = log.walk(True)
        self.assertEqual(next(walk), Realm(swaps=4))
        log.withdraw(2)
        self.assertEqual(list(walk), [Realm(swaps=2)])


class StepsTest(unittest.TestCase):
    def test_undo_and_redo(self):
        log = Unseen()
        fails(self, NothingLeft, {}, log.undo)
        fails(self, NothingLeft, {}, log.redo)
        log.note(Realm(swaps=4), True)
        log.note(Realm(swaps=1), False)
        log.withdraw(1)
        self.assertEqual(log.history(), (3, 0))
        states = [log.verdicts()]
        for k in range(3):
            self.assertIsNone(log.undo())
            states.append(log.verdicts())
            self.assertEqual(log.history(), (2 - k, k + 1))
        self.assertEqual([[one[0] for one in state] for state in states], [[2], [1, 2], [1], []])
        fails(self, NothingLeft, {}, log.undo)
        for k in range(3):
            self.assertIsNone(log.redo())
            self.assertEqual(log.verdicts(), states[2 - k])
            self.assertEqual(log.history(), (k + 1, 2 - k))
        fails(self, NothingLeft, {}, log.redo)

    def test_numbers_after_an_undo(self):
        log = Unseen()
        log.note(Realm(swaps=4), True)
        log.note(Realm(swaps=2), True)
        log.undo()
        self.assertEqual(log.note(Realm(swaps=6), True), 2)
        fails(self, NothingLeft, {}, log.redo)
        log.withdraw(2)
        log.undo()
        self.assertEqual(log.note(Realm(swaps=1), True), 3)
        log.undo()
        log.undo()
        log.undo()
        self.assertEqual((log.note(Realm(), True), log.history()), (1, (1, 0)))

    def test_a_refused_call_is_no_step(self):
        log = Unseen()
        log.note(Realm(swaps=4), True)
        log.undo()
        fails(self, Unsound, {"number": 0}, log.note, Realm.nowhere(), True)
        fails(self, UnknownNumber, {"number": 1}, log.withdraw, 1)
        fails(self, WrongCount, {"given": 2}, log.note_program, SQUARE, Wish.read("y\n0\n"))
        self.assertEqual(log.history(), (0, 1))
        log.redo()
        self.assertEqual(log.verdicts(), [(1, Realm(swaps=4), True)])

    def test_twin(self):
        log = drawn_log(Random(8), 10)
        log.undo()
        log.withdraw(log.verdicts()[0][0])
        log.undo()
        other = log.twin()
        self.assertIsNot(other, log)
        self.assertEqual(other, log)
        self.assertEqual(state_of(other), state_of(log))
        before = state_of(log)
        other.redo()
        self.assertNotEqual(other, log)
        while other.history()[0]:
            other.undo()
        self.assertEqual(len(other), 0)
        self.assertEqual(state_of(log), before)
        third = log.twin()
        log.undo()
        log.undo()
        log.note(Realm(), True)
        self.assertEqual(state_of(third), before)
        self.assertEqual(third.note(Realm(), True), before[0][-1][0] + 1)

    def test_equality(self):
        one, other = Unseen(), Unseen()
        self.assertIs(one == other, True)
        one.note(Realm(swaps=4, squares=0), True)
        self.assertIs(one == other, False)
        other.note(Realm(swaps=3), True)
        self.assertIs(one == other, False)
        other.undo()
        other.note(Realm(swaps=4), False)
        self.assertIs(one == other, False)
        other.undo()
        other.note(Realm(swaps=4), True)
        self.assertIs(one == other, True)
        self.assertIs(one != other, False)
        one.note(Realm(), True)
        one.withdraw(1)
        other.undo()
        other.note(Realm(), True)
        self.assertIs(one == other, False)
        for value in ANY_VALUES + [one.verdicts(), repr(one)]:
            self.assertIs(one == value, False)

    def test_length_and_repr(self):
        log = Unseen()
        self.assertEqual((len(log), repr(log)), (0, "Unseen(0 right, 0 wrong)"))
        log.note(Realm(swaps=1), False)
        log.note(Realm(swaps=2), True)
        log.note(Realm(), True)
        self.assertEqual((len(log), repr(log)), (3, "Unseen(2 right, 1 wrong)"))
        self.assertLessEqual(
            {"note", "note_program", "withdraw", "verdicts", "meet", "judge", "rings", "needless", "walk", "undo",
             "redo",
             "history", "twin", "__init__", "__len__", "__eq__", "__repr__"},
            names_of_methods(Unseen),
        )


if __name__ == "__main__":
    unittest.main()
