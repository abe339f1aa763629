"""[2], [3], [27] Desks: closers under names, promises, trials and logs."""

import itertools
import random
import unittest

from closerworks import desks as module
from closerworks.books import stem
from closerworks.closers import Closer
from closerworks.comparing import is_finer
from closerworks.desks import Desk, played
from closerworks.errors import (Broken, InUse, InvalidLog, InvalidName, InvalidNumber, InvalidWish, NotACloser,
                                NothingToUndo, UnknownName)
from closerworks.exchange import has_exchange
from closerworks.orders import is_distributive, is_modular
from closerworks.telling import by_rules
from closerworks.topologies import by_leads, is_topology
from tests.helpers import (Case, as_lot, closers_of, every_lot, example_closers, odd_tuples, odd_values, odd_words,
                           sample_closers, swaps_told, wrong_closers, wrong_integers)

SEVEN = "acegikz"
FLAT, LINE, FOUR = example_closers()
FORK = by_leads("abc", ("ab", "ac"))
ONE = Closer("a", ("a",))
ALL = Closer(SEVEN, tuple(every_lot(SEVEN)))
WORDS = ("convex", "exchange", "topology", "distributive", "modular")


class Own(Exception):
    """An exception of no class of the package."""


def stand(desk):
    """What a desk shows."""
    return desk.names, [str(desk.named(name)) for name in desk.names], desk.promises, desk.changes, desk.log, len(desk)


def made(*changes):
    """A desk with these changes: (name, closer) for put, another tuple for promise."""
    desk = Desk()
    for change in changes:
        if isinstance(change[1], Closer):
            desk.put(*change)
        else:
            desk.promise(change)
    return desk


def is_so(closer, wish):
    """Whether a wish is so, by the words of the document."""
    word, *told = wish
    lots = every_lot(closer.things)
    around = {lot: closer.around(lot) for lot in lots}
    if word in ("holds", "breaks"):
        if not (told[0] in lots and told[1] in lots):
            return False
        kept = all(set(told[1]) <= set(lot) for lot in closer.closed if set(told[0]) <= set(lot))
        return kept is (word == "holds")
    if word == "closed":
        return told[0] in closer.closed
    if word == "key":
        full = [lot for lot in lots if around[lot] == closer.things]
        return told[0] in full and not any(set(lot) < set(told[0]) for lot in full)
    if word == "strict":
        return told[0] in lots and all(set(told[0]) <= set(around[lot]) for lot in every_lot(told[0])
                                       if set(around[lot]) & set(told[0]) != set(lot))
    if word in ("many", "few"):
        return len(closer.closed) >= told[0] if word == "many" else len(closer.closed) <= told[0]
    if word == "stem":
        return len(stem(closer)) <= told[0]
    if word == "convex":
        return "" in closer.closed and not swaps_told(closer)
    if word == "topology":
        return "" in closer.closed and all(as_lot(one + other) in closer.closed for one in closer.closed for other in closer.closed)
    return {"exchange": has_exchange, "distributive": is_distributive, "modular": is_modular}[word](closer)


def some_wishes(things):
    """Wishes of each word, also with lots that are none of the things."""
    lots = every_lot(things)[::1 if len(things) < 4 else 23] + ["z", things + "z", "abcdefghijklmnopqrstuvwxyz", "xyz", "b"]
    found = [(word,) for word in WORDS]
    found += [(word, number) for word in ("many", "few", "stem") for number in (0, 1, 2, 3, 5, 7, 8, 128, 10 ** 99)]
    found += [(word, lot) for word in ("closed", "key", "strict") for lot in lots]
    found += [(word, one, other) for word in ("holds", "breaks") for one in lots for other in lots]
    return found


def wrong_wishes():
    """Values that are no wishes for a closer."""
    found = odd_values() + odd_words() + odd_tuples() + ["", "convex", (), ("",), ("convex", ""), ("convex", None), ["convex"]]
    found += [(word.upper(),) for word in WORDS] + [(word, "a") for word in WORDS] + [(word, 1) for word in WORDS]
    found += [("holds",), ("holds", "a"), ("holds", "a", "b", "c"), ("holds", ("a", "b")), ("breaks", "a"), ("key",)]
    found += [("many",), ("many", 1, 1), ("few", "1"), ("closed", "a", "b"), ("strict",), ("stem",), ("stem", 1, 2),
              ("holds ", "a", "b"), ("finer", "a", "b"), ("half-modular",), (None,), (("convex",),), ("keys", "a"), (True, "a")]
    values = [value for value in odd_values() if isinstance(value, bool) or not isinstance(value, int)]
    values += odd_words() + odd_tuples() + ["", "0", (), (0,), -1, -10 ** 99]
    found += [(word, value) for word in ("many", "few", "stem") for value in values]
    lots = odd_values() + odd_tuples() + [word for word in odd_words()] + [(), ("a",), 5]
    found += [(word, lot) for word in ("closed", "key", "strict") for lot in lots]
    found += [("holds", lot, "a") for lot in lots] + [("breaks", "a", lot) for lot in lots]
    return found


def wrong_vows():
    """Values that are no pairs or triples of promises."""
    right = ("convex",)
    found = odd_values() + odd_words() + odd_tuples() + ["", (), ("yard",), right, ("yard", right, right), ["yard", right]]
    found += [("yard", wish) for wish in wrong_wishes()] + [(None, wish) for wish in wrong_wishes()[::5]]
    found += [([], right), ({}, right), (["yard"], right), ({"yard": 1}, right), ("finer",), ("finer", "yard"), (right, "yard")]
    found += [("finer", "yard", []), ("finer", {}, "yard"), ("finer", [], {}), ("finer", "yard", "yard", "yard"), ["finer", "a", "b"]]
    found += [("Finer", "yard", "yard"), (None, "yard", "yard"), (b"finer", "yard", "yard"), ("", "yard", "yard"), ("finer", ["yard"], "x")]
    return found


def wrong_names():
    """Values that are no names."""
    found = odd_values() + odd_tuples() + ["", "abcdefghi", "a b", "A", "yarD", " ", "a ", "-", "a1", "0", "a_b", "yard\n", "\n"]
    return found + ["\u00e9", "a" * 9, "z" * 4000, (), ("a",), ["a"], b"a", "`", "{"]


class Examples(Case):

    def test_examples(self):
        line, flat = LINE, FLAT
        desk = Desk()
        self.assertIsNone(desk.put("yard", line))
        self.assertIsNone(desk.promise(("yard", ("convex",))))
        self.assertEqual([desk.names, desk.changes, desk.log[1], played(desk.log).named("yard") == line],
                         [('yard',), 2, ('promise', ('yard', ('convex',))), True])
        self.check_raises(Broken, 0, desk.put, "yard", flat)


class DeskCase(Case):

    def check_wrong(self, desk, kind, has, action, *args, **named):
        """The call raises this very error, and the desk stays as it was."""
        before = stand(desk)
        self.check_raises(kind, has, action, *args, **named)
        self.assertEqual(stand(desk), before)


class Names(DeskCase):

    def test_at_first_there_is_nothing(self):
        desk = Desk()
        self.assertEqual(stand(desk), ((), [], (), 0, (), 0))
        self.assertIs(bool(desk), True)
        self.assertTrue(all(type(value) is tuple for value in (desk.names, desk.promises, desk.log)))

    def test_put_named_and_drop(self):
        desk = Desk()
        for name, closer in (("yard", LINE), ("a", FLAT), ("zzzzzzzz", FOUR), ("finer", ONE), ("b", ALL), ("bb", ALL)):
            self.assertIsNone(desk.put(name, closer))
            self.assertIs(type(desk.named(name)), Closer)
            self.assertEqual([desk.named(name), desk.named(name=name)], [closer, closer])
        self.assertEqual([desk.names, len(desk), desk.changes], [("a", "b", "bb", "finer", "yard", "zzzzzzzz"), 6, 6])
        self.assertIsNone(desk.put(closer=FOUR, name="a"))
        self.assertEqual([desk.named("a"), len(desk), desk.changes], [FOUR, 6, 7])
        self.assertIsNone(desk.drop("yard"))
        self.assertIsNone(desk.drop(name="b"))
        self.assertEqual([desk.names, len(desk), desk.changes], [("a", "bb", "finer", "zzzzzzzz"), 4, 9])
        self.check_wrong(desk, UnknownName, "yard", desk.named, "yard")
        self.check_wrong(desk, UnknownName, "yard", desk.drop, "yard")
        desk.put("yard", FLAT)
        self.assertEqual(desk.named("yard"), FLAT)

    def test_each_desk_is_true(self):
        desk = made(("a", LINE))
        self.assertIs(bool(desk), True)
        desk.drop("a")
        self.assertEqual([bool(desk), len(desk)], [True, 0])

    def test_wrong_names(self):
        desk = made(("a", LINE), ("a", ("convex",)))
        for name in wrong_names():
            self.check_wrong(desk, InvalidName, name, desk.put, name, FLAT)
            self.check_wrong(desk, InvalidName, name, desk.put, name, None)
            self.check_wrong(desk, InvalidName, name, desk.put, name=name, closer=LINE)
            self.check_wrong(desk, UnknownName, name, desk.named, name)
            self.check_wrong(desk, UnknownName, name, desk.drop, name)
        for name in ("b", "yard", "aa", "abcdefgh"):
            self.check_wrong(desk, UnknownName, name, desk.named, name)
            self.check_wrong(desk, UnknownName, name, desk.drop, name)

    def test_what_is_no_closer(self):
        desk = made(("a", LINE), ("a", ("convex",)))
        for value, _ in wrong_closers():
            self.check_wrong(desk, NotACloser, value, desk.put, "a", value)
            self.check_wrong(desk, NotACloser, value, desk.put, name="b", closer=value)

    def test_a_desk_is_equal_to_itself_alone(self):
        desk = made(("a", LINE))
        self.assertEqual([desk == desk, desk != desk], [True, False])
        for other in [made(("a", LINE)), Desk(), desk.log, desk.names, LINE] + odd_values() + odd_tuples() + odd_words():
            self.assertEqual([desk == other, other == desk, desk != other, other != desk], [False, False, True, True])

    def test_properties_are_not_set(self):
        desk = made(("a", LINE))
        before = stand(desk)
        for name in ("names", "promises", "changes", "log"):
            with self.assertRaises(AttributeError):
                setattr(desk, name, ())
        self.assertEqual(stand(desk), before)

    def test_all_stands_in_the_class_itself(self):
        self.assertEqual([Desk.__module__, played.__module__], ["closerworks.desks"] * 2)
        self.assertEqual(module.Desk, Desk)
        for name in ("__init__", "__len__", "put", "named", "drop", "promise", "lift", "undo", "trial", "tried", "names",
                     "promises", "changes", "log"):
            self.assertIn(name, vars(Desk))


class Promises(DeskCase):

    def test_each_wish(self):
        seen = {}
        for closer in [ONE, Closer("a", ("", "a")), LINE, FLAT, FOUR, FORK] + closers_of("abc")[::5] + sample_closers()[-4:]:
            desk = made(("yard", closer))
            for wish in some_wishes(closer.things):
                before = desk.changes
                if is_so(closer, wish):
                    self.assertIsNone(desk.promise(("yard", wish)))
                    self.assertEqual([desk.promises, desk.changes], [(("yard", wish),), before + 1], (str(closer), wish))
                    desk.undo()
                else:
                    self.check_raises(Broken, 0, desk.promise, ("yard", wish))
                self.assertEqual([desk.promises, desk.changes], [(), before])
                seen.setdefault(wish[0], set()).add(is_so(closer, wish))
        self.assertEqual(set(map(frozenset, seen.values())), {frozenset([True, False])})
        self.assertEqual(len(seen), 13)

    def test_lots_of_things_that_the_closer_has_not(self):
        desk = made(("yard", LINE))
        for wish in (("holds", "z", "z"), ("holds", "", "z"), ("breaks", "a", "z"), ("breaks", "z", "a"), ("closed", "z"),
                     ("key", "acz"), ("strict", "z"), ("strict", "abcz"), ("holds", "abcdefgh", ""), ("breaks", "", "abcdefgh")):
            self.check_wrong(desk, Broken, 0, desk.promise, ("yard", wish))

    def test_finer(self):
        closers = closers_of("ab") + [ONE, LINE, FLAT, FOUR] + closers_of("abc")[::9]
        for one, other in itertools.product(closers, repeat=2):
            desk = made(("x", one), ("y", other))
            self.assertIsNone(desk.promise(("finer", "x", "x")))
            if one.things == other.things and set(other.closed) <= set(one.closed):
                self.assertIsNone(desk.promise(("finer", "x", "y")))
                self.assertEqual(desk.promises, (("finer", "x", "x"), ("finer", "x", "y")))
            else:
                self.check_raises(Broken, 1, desk.promise, ("finer", "x", "y"))

    def test_a_name_that_is_the_word(self):
        desk = made(("finer", LINE), ("finer", ("convex",)), ("finer", "finer", "finer"))
        self.assertEqual(desk.promises, (("finer", ("convex",)), ("finer", "finer", "finer")))
        self.check_wrong(desk, InUse, 0, desk.drop, "finer")
        desk.put("x", LINE)
        desk.promise(("finer", "x", "x"))
        desk.lift(0)
        desk.lift(0)
        self.assertIsNone(desk.drop("finer"))

    def test_promises_alike(self):
        vow = ("yard", ("convex",))
        desk = made(("yard", LINE), vow, vow, vow)
        self.assertEqual(desk.promises, (vow,) * 3)
        desk.lift(1)
        self.assertEqual(desk.promises, (vow,) * 2)

    def test_what_is_no_wish(self):
        desk = made(("yard", LINE), ("yard", ("convex",)))
        for value in wrong_vows():
            self.check_wrong(desk, InvalidWish, value, desk.promise, value)
        self.check_wrong(desk, InvalidWish, None, desk.promise, wish=None)

    def test_unknown_names(self):
        desk = made(("yard", LINE))
        right = ("convex",)
        names = [value for value in wrong_names() + ["b", "x", ("yard",)] if not isinstance(value, (list, dict))]
        for name in names:
            self.check_wrong(desk, UnknownName, name, desk.promise, (name, right))
            self.check_wrong(desk, UnknownName, name, desk.promise, ("finer", name, "yard"))
            self.check_wrong(desk, UnknownName, name, desk.promise, ("finer", "yard", name))
            self.check_wrong(desk, UnknownName, name, desk.promise, ("finer", name, "other"))
            self.check_wrong(desk, UnknownName, name, desk.promise, ("finer", name, None))
        # A name is looked for behind the wish, and ahead of what is broken.
        self.check_wrong(desk, UnknownName, "x", desk.promise, ("x", ("few", 0)))
        wrong = ("x", ("few", -1))
        self.check_wrong(desk, InvalidWish, wrong, desk.promise, wrong)

    def test_lift(self):
        vows = [("yard", ("convex",)), ("yard", ("many", 3)), ("finer", "yard", "yard"), ("x", ("key", ""))]
        desk = made(("yard", LINE), ("x", ONE), *vows)
        for most in (3, 2, 1, 0):
            for value in wrong_integers(most) + [most + 1]:
                self.check_wrong(desk, InvalidNumber, value, desk.lift, value)
            at = most // 2
            self.assertIsNone(desk.lift(index=at) if most == 2 else desk.lift(at))
            vows = vows[:at] + vows[at + 1:]
            self.assertEqual(desk.promises, tuple(vows))
        for value in (0, -1, True, None):
            self.check_wrong(desk, InvalidNumber, value, desk.lift, value)
        self.assertEqual(desk.changes, 10)


class Kept(DeskCase):

    def test_the_first_promise_that_would_not_hold(self):
        desk = made(("x", LINE), ("yard", LINE), ("x", ("many", 2)), ("yard", ("many", 5)), ("yard", ("convex",)),
                    ("finer", "yard", "x"), ("x", ("convex",)))
        self.check_wrong(desk, Broken, 2, desk.put, "yard", FLAT)
        self.check_wrong(desk, Broken, 1, desk.put, "yard", Closer("abc", ("", "abc")))
        self.check_wrong(desk, Broken, 3, desk.put, "yard", FOUR)
        self.check_wrong(desk, Broken, 0, desk.put, "x", Closer("abc", ("abc",)))
        self.check_wrong(desk, Broken, 3, desk.put, "x", Closer("abc", tuple(every_lot("abc"))))
        self.check_wrong(desk, Broken, 4, desk.put, "x", FLAT)
        self.assertIsNone(desk.put("x", FORK))
        self.assertIsNone(desk.put("yard", Closer("abc", tuple(every_lot("abc")))))
        self.assertIsNone(desk.put("x", LINE))
        self.check_wrong(desk, InUse, 1, desk.drop, "yard")
        self.check_wrong(desk, InUse, 0, desk.drop, "x")
        desk.lift(0)
        self.check_wrong(desk, InUse, 2, desk.drop, name="x")
        desk.lift(3)
        desk.lift(2)
        self.assertIsNone(desk.drop("x"))
        self.check_wrong(desk, Broken, 2, desk.promise, ("yard", ("few", 7)))

    def test_the_promises_hold_behind_each_change(self):
        closers = closers_of("abc") + closers_of("ab")
        for seed in range(8):
            chance = random.Random(seed)
            desk = Desk()
            names = ("a", "b", "cc")
            deeds = 0
            while deeds < 150:
                word = chance.choice(["put", "put", "promise", "promise", "promise", "drop", "lift", "undo"])
                before = stand(desk)
                try:
                    if word == "put":
                        desk.put(chance.choice(names), chance.choice(closers))
                    elif word == "promise":
                        wish = chance.choice(some_wishes("ab"))
                        finer = ("finer", chance.choice(names), chance.choice(names))
                        desk.promise(finer if chance.random() < 0.3 else (chance.choice(names), wish))
                    elif word == "drop":
                        desk.drop(chance.choice(names))
                    elif word == "lift":
                        desk.lift(chance.randrange(max(1, len(desk.promises))))
                    else:
                        desk.undo()
                except (Broken, InUse, UnknownName, InvalidNumber, NothingToUndo):
                    self.assertEqual(stand(desk), before)
                for vow in desk.promises:
                    if len(vow) == 2:
                        self.assertTrue(is_so(desk.named(vow[0]), vow[1]))
                    else:
                        one, other = desk.named(vow[1]), desk.named(vow[2])
                        self.assertTrue(one.things == other.things and is_finer(one, other))
                deeds += 1
            self.assertEqual(stand(played(desk.log)), stand(desk))


class TakenBack(DeskCase):

    def test_undo(self):
        desk = Desk()
        stands = [stand(desk)]
        for word, args in (("put", ("x", LINE)), ("promise", (("x", ("convex",)),)), ("put", ("y", FLAT)), ("put", ("x", FORK)),
                           ("put", ("x", FORK)), ("promise", (("y", ("exchange",)),)), ("lift", (0,)), ("drop", ("x",)),
                           ("lift", (0,)), ("put", ("y", LINE))):
            getattr(desk, word)(*args)
            stands.append(stand(desk))
        self.assertEqual(desk.changes, 10)
        while len(stands) > 1:
            stands.pop()
            self.assertIsNone(desk.undo())
            self.assertEqual(stand(desk), stands[-1])
        for _ in range(2):
            with self.assertRaises(NothingToUndo) as caught:
                desk.undo()
            self.assertEqual((type(caught.exception), vars(caught.exception)), (NothingToUndo, {}))
        self.assertEqual(stand(desk), stands[0])

    def test_a_promise_that_is_taken_back_binds_no_more(self):
        desk = made(("x", LINE), ("x", ("convex",)))
        self.check_wrong(desk, Broken, 0, desk.put, "x", FLAT)
        desk.undo()
        self.assertIsNone(desk.put("x", FLAT))
        desk.undo()
        self.assertEqual(desk.named("x"), LINE)

    def test_trials(self):
        desk = made(("x", LINE), ("x", ("convex",)))
        before = stand(desk)
        desk.trial()
        self.assertEqual(stand(desk), before)
        with desk.trial() as held:
            self.assertIs(held, desk)
        error = Own("x")
        with self.assertRaises(Own) as caught:
            with desk.trial():
                desk.undo()
                desk.put("x", FLAT)
                desk.undo()
                desk.undo()
                self.assertEqual(desk.changes, 0)
                desk.put("y", FLAT)
                with self.assertRaises(Own):
                    with desk.trial():
                        desk.drop("y")
                        raise Own
                self.assertEqual(desk.names, ("y",))
                raise error
        self.assertIs(caught.exception, error)
        self.assertEqual(stand(desk), before)
        with self.assertRaises(Broken):
            with desk.trial():
                desk.put("y", FLAT)
                desk.put("x", FLAT)
        self.assertEqual(stand(desk), before)
        with desk.trial():
            desk.put("y", FLAT)
            desk.lift(0)
        self.assertEqual([desk.names, desk.promises, desk.changes], [("x", "y"), (), 4])
        self.assertEqual([change[0] for change in desk.log], ["put", "promise", "put", "lift"])

    def test_tried(self):
        desk = made(("x", LINE))
        before = stand(desk)
        self.assertIs(desk.tried(lambda held: held), desk)
        self.assertEqual(desk.tried(action=lambda held: held.changes), 1)
        self.check_wrong(desk, UnknownName, "z", desk.tried, lambda held: (held.put("y", FLAT), held.named("z")))
        with self.assertRaises(ZeroDivisionError):
            desk.tried(lambda held: (held.drop("x"), 1 // 0))
        self.assertEqual(stand(desk), before)
        self.assertIsNone(desk.tried(lambda held: held.drop("x")))
        self.assertEqual([desk.names, desk.changes], [(), 2])


class Logs(DeskCase):

    def full(self):
        """A desk with changes of all kinds."""
        desk = Desk()
        desk.put("x", LINE)
        desk.put("yard", FLAT)
        desk.promise(("x", ("holds", "ac", "b")))
        desk.promise(("finer", "x", "yard"))
        desk.promise(("yard", ("exchange",)))
        desk.put("x", LINE)
        desk.lift(1)
        desk.put("z", FOUR)
        desk.promise(("z", ("key", "ab")))
        desk.lift(2)
        desk.drop("z")
        desk.put("yard", Closer("abc", ("", "abc")))
        desk.put("tiny", Closer("a", ("", "a")))
        return desk

    def test_what_a_log_has(self):
        desk = self.full()
        self.assertEqual(desk.log, (
            ("put", "x", "abc - a ab abc b bc c"), ("put", "yard", "abc - a abc b c"),
            ("promise", ("x", ("holds", "ac", "b"))), ("promise", ("finer", "x", "yard")),
            ("promise", ("yard", ("exchange",))), ("put", "x", "abc - a ab abc b bc c"), ("lift", 1),
            ("put", "z", str(FOUR)), ("promise", ("z", ("key", "ab"))), ("lift", 2), ("drop", "z"),
            ("put", "yard", "abc - abc"), ("put", "tiny", "a - a")))
        self.assertEqual(len(desk.log), desk.changes)
        desk.undo()
        desk.undo()
        self.assertEqual(desk.log[-1], ("drop", "z"))

    def test_each_front_of_a_log(self):
        desk = self.full()
        log = desk.log
        for many in range(len(log), -1, -1):
            for found in (played(log[:many]), played(log=log[:many])):
                self.assertIs(type(found), Desk)
                self.assertEqual(stand(found), stand(desk))
                self.assertIsNot(found, desk)
                # It can be led on, and taken back, as the first one.
                for left in range(many - 1, -1, -1):
                    found.undo()
                    self.assertEqual(found.log, log[:left])
            if many:
                desk.undo()

    def outcome(self, log):
        """The index of the first change of a log that cannot be done, and the desk ahead of it."""
        desk = Desk()
        for at, change in enumerate(log):
            try:
                if change[0] == "put":
                    desk.put(change[1], Closer.read(change[2]))
                else:
                    getattr(desk, change[0])(*change[1:])
            except (Broken, InUse, UnknownName, InvalidNumber):
                return at, desk
        return None, desk

    def test_left_out_twice_and_in_another_place(self):
        log = self.full().log
        others = [log[:at] + log[at + 1:] for at in range(len(log))]
        others += [log[:at] + log[at:at + 1] + log[at:] for at in range(len(log))]
        others += [log[:at] + log[at + 1:to] + log[at:at + 1] + log[to:] for at in range(len(log)) for to in range(at + 1, len(log))]
        others += [log[:at] + log[to:to + 1] + log[at:to] + log[to + 1:] for at in range(len(log)) for to in range(at + 1, len(log))]
        others += [log + log, log[::-1]]
        seen = set()
        for other in others:
            at, desk = self.outcome(other)
            if at is None:
                self.assertEqual(stand(played(other)), stand(desk))
            else:
                self.check_raises(InvalidLog, at, played, other)
            seen.add(at)
        self.assertTrue(None in seen and len(seen) > 5)

    def test_no_log(self):
        values = odd_values() + odd_words() + ["", "put", [("put", "x", str(LINE))], {"put": 1}, [], {}, 0]
        for value in values:
            self.check_raises(InvalidLog, None, played, value)
        self.check_raises(InvalidLog, None, played, log=[])
        self.assertEqual(stand(played(())), stand(Desk()))

    def test_no_changes(self):
        front = (("put", "x", str(LINE)), ("promise", ("x", ("convex",))))
        wrongs = odd_values() + odd_tuples() + odd_words() + ["", (), ("put",), ("put", "x"), ("drop",), ("undo",), ("lift",)]
        wrongs += [("put", "x", LINE), ("put", "x", str(LINE), ""), ("put", "X", str(LINE)), ("put", "x", "abc abc a"), ("put", 5, str(LINE))]
        wrongs += [["put", "x", str(LINE)], ("put", "y", str(LINE) + " "), ("put", [], str(LINE)), ("put", "x", str(FLAT)), ("Put", "x", str(LINE))]
        wrongs += [("drop", "x"), ("drop", "y"), ("drop", []), ("drop", "x", "y"), ("drop", None), ("drop", ("x",)), ("named", "x")]
        wrongs += [("promise", vow) for vow in wrong_vows()] + [("promise", "x", ("convex",)), ("promise", ("y", ("convex",)))]
        wrongs += [("promise", ("x", ("few", 2))), ("promise",), ("promise", ("finer", "x", "y")), ("promise", ([], ("convex",)))]
        wrongs += [("lift", value) for value in wrong_integers(0)] + [("lift", 1), ("lift", 0, 0), ("lift", True), ("lift", "0")]
        for wrong in wrongs:
            self.check_raises(InvalidLog, 2, played, front + (wrong,))
            self.check_raises(InvalidLog, 2, played, front + (wrong, None))
            self.check_raises(InvalidLog, 0, played, ((("put", "x", "?"),) + front + (wrong,)))
        self.assertEqual(played(front + (("lift", 0), ("drop", "x"))).names, ())

    def test_long_logs(self):
        desk = Desk()
        for at in range(300):
            desk.put("x", LINE if at % 2 else FLAT)
            desk.promise(("x", ("many", 5)))
        self.assertEqual([desk.changes, len(desk.log), len(desk.promises)], [600, 600, 300])
        self.assertEqual(stand(played(desk.log)), stand(desk))


class Apart(Case):

    def test_desks_do_not_share_what_they_do(self):
        one, other = Desk(), Desk()
        one.put("x", LINE)
        self.assertEqual([other.names, other.changes, Desk().names], [(), 0, ()])
        again = played(one.log)
        again.drop("x")
        self.assertEqual(one.names, ("x",))

    def test_a_closer_told_in_other_ways(self):
        desk = made(("x", by_rules("abc", (("ac", "b"),))), ("x", ("convex",)))
        self.assertEqual(desk.log, (("put", "x", str(LINE)), ("promise", ("x", ("convex",)))))


if __name__ == "__main__":
    unittest.main()
