"""[2], [3] Benches: changes, what is taken back, and trials."""

import random
import unittest

from closerworks import benches as module
from closerworks.benches import Bench
from closerworks.closers import Closer
from closerworks.comparing import kept, shut
from closerworks.errors import InvalidLot, InvalidRule, NotACloser, NothingToUndo, TooFew
from tests.helpers import (Case, closers_of, every_lot, example_closers, keeps_rule, odd_tuples, odd_values, odd_words,
                           sample_closers, wrong_closers, wrong_lots, wrong_rules)

SEVEN = "acegikz"
FLAT, LINE, FOUR = example_closers()


class Own(Exception):
    """An exception of no class of the package."""


def stand(bench):
    """What a bench shows."""
    return str(bench.now), bench.changes


def added(closer, rule):
    """The closer without the closed lots that do not keep a rule."""
    return Closer(closer.things, tuple(lot for lot in closer.closed if keeps_rule(lot, rule)))


def closed_too(closer, lot):
    """The closer by which a lot is closed, too, and what it has in common with closed lots."""
    more = {"".join(x for x in lot if x in other) for other in closer.closed}
    return Closer(closer.things, tuple(sorted(more | set(closer.closed))))


def deeds(closer):
    """All deeds of a bench, pairs of a word and a tuple of arguments."""
    lots = every_lot(closer.things)
    found = [("close", (lot,)) for lot in lots] + [("keep", (lot,)) for lot in lots if lot != ""]
    found += [("shut", (lot,)) for lot in lots if lot != closer.things]
    return found + [("add", ((lot, then),)) for lot in lots for then in lots[::1 if len(lots) < 17 else 19]]


def led_to(closer, word, args):
    """The closer to which a deed leads."""
    actions = {"close": closed_too, "keep": kept, "shut": shut, "add": added}
    return actions[word](closer, *args)


class Examples(unittest.TestCase):

    def test_examples(self):
        line = LINE
        bench = Bench(line)
        self.assertIsNone(bench.add(("b", "a")))
        self.assertIsNone(bench.close("c"))
        self.assertEqual([bench.now.closed, bench.changes], [('', 'a', 'ab', 'abc', 'c'), 2])
        self.assertEqual([bench.undo(), bench.undo(), bench.now == line, bench.changes], [None, None, True, 0])


class Made(Case):

    def test_by_position_and_by_name(self):
        for closer in sample_closers():
            for bench in (Bench(closer), Bench(closer=closer)):
                self.assertIs(type(bench), Bench)
                self.assertEqual([bench.now, bench.changes], [closer, 0])
                self.assertIs(type(bench.now), Closer)
                self.assertIs(bool(bench), True)

    def test_wrong_inputs(self):
        for value, _ in wrong_closers():
            self.check_raises(NotACloser, value, Bench, value)
            self.check_raises(NotACloser, value, Bench, closer=value)

    def test_properties_are_not_set(self):
        bench = Bench(LINE)
        for name in ("now", "changes"):
            with self.assertRaises(AttributeError):
                setattr(bench, name, FLAT)
        self.assertEqual(stand(bench), (str(LINE), 0))

    def test_a_bench_is_equal_to_itself_alone(self):
        bench = Bench(LINE)
        self.assertIs(bench == bench, True)
        self.assertIs(bench != bench, False)
        for other in [Bench(LINE), LINE, str(LINE), bench.trial()] + odd_values() + odd_tuples() + odd_words():
            self.assertEqual([bench == other, other == bench, bench != other, other != bench], [False, False, True, True])

    def test_all_stands_in_the_class_itself(self):
        self.assertEqual((Bench.__module__, module.Bench), ("closerworks.benches", Bench))
        for name in ("__init__", "add", "close", "keep", "shut", "undo", "now", "changes", "trial", "tried"):
            self.assertIn(name, vars(Bench))


class Changes(Case):

    def test_each_deed(self):
        for closer in sample_closers() + closers_of("abc")[::4]:
            before = str(closer)
            bench = Bench(closer)
            for word, args in deeds(closer)[::1 if len(closer.things) < 5 else 11]:
                right = led_to(closer, word, args)
                self.assertIsNone(getattr(bench, word)(*args))
                self.assertEqual(bench.now, right, (before, word, args))
                self.assertEqual(bench.changes, 1)
                # What is asked of it is asked of the closer now.
                self.assertEqual(bench.now.around(""), right.closed[0] if right.closed[0] == "" else right.around(""))
                self.assertIsNone(bench.undo())
                self.assertEqual(stand(bench), (before, 0))
            self.assertEqual(str(closer), before)

    def test_arguments_by_name(self):
        for word, named, right in (("add", {"rule": ("c", "d")}, FOUR), ("close", {"lot": "ab"}, closed_too(FOUR, "ab")),
                                   ("keep", {"lot": "ab"}, kept(FOUR, "ab")), ("shut", {"lot": "c"}, shut(FOUR, "c"))):
            bench = Bench(FOUR)
            self.assertIsNone(getattr(bench, word)(**named))
            self.assertEqual((bench.now, bench.changes), (right, 1))

    def test_deeds_by_which_nothing_becomes_other(self):
        bench = Bench(LINE)
        bench.add(("ac", "b"))
        bench.add(("a", "a"))
        bench.add(("", ""))
        bench.close("ab")
        bench.close("abc")
        bench.keep("abc")
        bench.shut("")
        self.assertEqual(stand(bench), (str(LINE), 7))
        for changes in (6, 5, 4, 3, 2, 1, 0):
            self.assertIsNone(bench.undo())
            self.assertEqual(stand(bench), (str(LINE), changes))

    def test_the_things_become_fewer_and_come_back(self):
        bench = Bench(FOUR)
        bench.keep("abd")
        self.assertEqual(bench.now.things, "abd")
        self.check_raises(InvalidLot, "c", bench.close, "c")
        rule = ("a", "c")
        self.check_raises(InvalidRule, rule, bench.add, rule)
        bench.shut("d")
        self.assertEqual([bench.now.things, bench.changes], ["ab", 2])
        bench.shut("a")
        self.assertEqual([bench.now.things, bench.changes], ["b", 3])
        self.check_raises(TooFew, 0, bench.shut, "b")
        self.check_raises(TooFew, 0, bench.keep, "")
        for things in ("ab", "abd", "abcd"):
            bench.undo()
            self.assertEqual(bench.now.things, things)
        self.assertEqual(bench.now, FOUR)

    def test_nothing_to_undo(self):
        bench = Bench(LINE)
        for _ in range(3):
            with self.assertRaises(NothingToUndo) as caught:
                bench.undo()
            self.assertEqual((type(caught.exception), vars(caught.exception)), (NothingToUndo, {}))
            self.assertEqual(stand(bench), (str(LINE), 0))
        bench.close("ac")
        bench.undo()
        with self.assertRaises(NothingToUndo):
            bench.undo()

    def test_long_rows_of_deeds(self):
        for seed in range(12):
            chance = random.Random(seed)
            closer = chance.choice([FOUR, LINE, Closer(SEVEN, (SEVEN,)), Closer("abcde", tuple(every_lot("abcde")))])
            bench, stands = Bench(closer), [closer]
            for _ in range(60):
                if chance.random() < 0.35 and len(stands) > 1:
                    bench.undo()
                    stands.pop()
                else:
                    word, args = chance.choice(deeds(stands[-1]))
                    getattr(bench, word)(*args)
                    stands.append(led_to(stands[-1], word, args))
                self.assertEqual((bench.now, bench.changes), (stands[-1], len(stands) - 1))

    def test_benches_do_not_share_what_they_do(self):
        one, other = Bench(LINE), Bench(LINE)
        one.close("ac")
        self.assertEqual([stand(other), LINE.is_closed("ac")], [(str(LINE), 0), False])


class WrongInputs(Case):

    def benches(self):
        for closer in (FOUR, Closer("a", ("a",)), Closer(SEVEN, ("", SEVEN))):
            bench = Bench(closer)
            yield bench
            bench.close(closer.things[0])
            yield bench

    def check(self, kind, has, bench, action, value):
        before = stand(bench)
        self.check_raises(kind, has, action, value)
        self.assertEqual(stand(bench), before)

    def test_wrong_rules(self):
        for bench in self.benches():
            for value, has in wrong_rules(bench.now.things):
                self.check(InvalidRule, has, bench, bench.add, value)
            before = stand(bench)
            self.check_raises(InvalidRule, None, bench.add, rule=None)
            self.assertEqual(stand(bench), before)

    def test_wrong_lots(self):
        for bench in self.benches():
            for action in (bench.close, bench.keep, bench.shut):
                for value, has in wrong_lots(bench.now.things):
                    self.check(InvalidLot, has, bench, action, value)
                before = stand(bench)
                self.check_raises(InvalidLot, 7, action, lot=7)
                self.assertEqual(stand(bench), before)

    def test_too_few_things(self):
        for bench in self.benches():
            self.check(TooFew, 0, bench, bench.keep, "")
            self.check(TooFew, 0, bench, bench.shut, bench.now.things)


class Trials(Case):

    def test_a_call_alone_changes_nothing(self):
        bench = Bench(LINE)
        bench.close("ac")
        before = stand(bench)
        bench.trial()
        bench.trial().__class__
        self.assertEqual(stand(bench), before)

    def test_what_stands_behind_as_is_the_bench(self):
        bench = Bench(LINE)
        with bench.trial() as held:
            self.assertIs(held, bench)

    def test_ended_by_an_exception(self):
        for kind in (Own, ValueError, KeyError, InvalidLot, StopIteration, KeyboardInterrupt, SystemExit, GeneratorExit):
            bench = Bench(LINE)
            bench.close("ac")
            before = stand(bench)
            error = kind("x")
            with self.assertRaises(kind) as caught:
                with bench.trial():
                    bench.add(("b", "a"))
                    bench.keep("ab")
                    raise error
            self.assertIs(caught.exception, error)
            self.assertEqual(stand(bench), before)
            bench.undo()
            self.assertEqual(stand(bench), (str(LINE), 0))

    def test_ended_by_an_error_of_the_bench(self):
        bench = Bench(LINE)
        for _ in range(2):
            with self.assertRaises(InvalidLot):
                with bench.trial():
                    bench.close("ac")
                    bench.close("d")
            with self.assertRaises(NothingToUndo):
                with bench.trial() as held:
                    held.close("ac")
                    held.undo()
                    held.undo()
            self.assertEqual(stand(bench), (str(LINE), 0))

    def test_an_error_that_is_caught_within_the_rows(self):
        bench = Bench(LINE)
        with bench.trial():
            bench.close("ac")
            try:
                bench.close("d")
            except InvalidLot:
                pass
        self.assertEqual(stand(bench), (str(closed_too(LINE, "ac")), 1))

    def test_ended_otherwise_all_stays(self):
        bench = Bench(LINE)
        with bench.trial():
            bench.close("ac")
            bench.shut("b")
        self.assertEqual([bench.changes, bench.now.things], [2, "ac"])

        def leave():
            with bench.trial():
                bench.close("")
                return 5

        self.assertEqual([leave(), bench.changes], [5, 3])
        for _ in range(4):
            with bench.trial():
                bench.close("a")
                break
        self.assertEqual(bench.changes, 4)
        for _ in range(2):
            with bench.trial():
                bench.close("c")
                continue
        self.assertEqual(bench.changes, 6)

    def test_more_is_taken_back_in_it_than_was_done_in_it(self):
        bench = Bench(FOUR)
        bench.close("ab")
        bench.keep("abc")
        before, two = stand(bench), bench.now
        with self.assertRaises(Own):
            with bench.trial():
                bench.shut("c")
                for _ in range(3):
                    bench.undo()
                self.assertEqual(stand(bench), (str(FOUR), 0))
                bench.close("c")
                raise Own
        self.assertEqual(stand(bench), before)
        bench.undo()
        self.assertEqual(stand(bench), (str(closed_too(FOUR, "ab")), 1))
        bench.keep("abc")
        self.assertEqual(bench.now, two)
        with bench.trial():
            bench.undo()
            bench.undo()
        self.assertEqual(stand(bench), (str(FOUR), 0))

    def test_trials_within_trials(self):
        bench = Bench(LINE)
        with bench.trial():
            bench.close("ac")
            with self.assertRaises(Own):
                with bench.trial():
                    bench.add(("a", "b"))
                    bench.undo()
                    bench.undo()
                    raise Own
            self.assertEqual(stand(bench), (str(closed_too(LINE, "ac")), 1))
            with bench.trial():
                bench.close("")
            self.assertEqual(bench.changes, 2)
        self.assertEqual(bench.changes, 2)
        with self.assertRaises(Own):
            with bench.trial():
                with bench.trial():
                    bench.keep("a")
                self.assertEqual(bench.now.things, "a")
                raise Own
        self.assertEqual([bench.changes, bench.now.things], [2, "abc"])
        with self.assertRaises(Own):
            with bench.trial() as one, bench.trial() as other:
                self.assertIs(one, other)
                bench.keep("a")
                raise Own
        self.assertEqual(bench.changes, 2)

    def test_one_trial_used_twice_and_within_itself(self):
        bench = Bench(LINE)
        trial = bench.trial()
        bench.close("ac")
        for _ in range(2):
            with self.assertRaises(Own):
                with trial:
                    bench.keep("a")
                    raise Own
            self.assertEqual(stand(bench), (str(closed_too(LINE, "ac")), 1))
        with self.assertRaises(Own):
            with trial:
                bench.keep("ab")
                with trial:
                    bench.keep("a")
                self.assertEqual(bench.now.things, "a")
                with self.assertRaises(Own):
                    with trial:
                        bench.undo()
                        raise Own
                self.assertEqual(bench.now.things, "a")
                raise Own
        self.assertEqual(stand(bench), (str(closed_too(LINE, "ac")), 1))

    def test_trials_of_two_benches(self):
        one, other = Bench(LINE), Bench(FOUR)
        with self.assertRaises(Own):
            with one.trial():
                one.keep("a")
                other.keep("b")
                raise Own
        self.assertEqual([one.now, one.changes, other.now.things, other.changes], [LINE, 0, "b", 1])


class Tried(Case):

    def test_a_value(self):
        bench = Bench(LINE)
        self.assertIs(bench.tried(lambda held: held), bench)
        self.assertEqual(stand(bench), (str(LINE), 0))
        for value in (5, None, "x", (), [1], False):
            self.assertIs(bench.tried(action=lambda held, value=value: value), value)
        self.assertIsNone(bench.tried(lambda held: held.close("ac")))
        self.assertEqual(stand(bench), (str(closed_too(LINE, "ac")), 1))
        self.assertEqual(bench.tried(Bench.undo), None)
        self.assertEqual(stand(bench), (str(LINE), 0))

    def test_an_error_of_the_package(self):
        bench = Bench(LINE)
        bench.close("ac")
        before = stand(bench)

        def wrong(held):
            held.undo()
            held.keep("ab")
            held.close("c")

        self.check_raises(InvalidLot, "c", bench.tried, wrong)
        self.assertEqual(stand(bench), before)

    def test_an_error_of_python(self):
        bench = Bench(LINE)
        error = Own("x")

        def wrong(held):
            held.keep("ab")
            raise error

        with self.assertRaises(Own) as caught:
            bench.tried(wrong)
        self.assertIs(caught.exception, error)
        with self.assertRaises(ZeroDivisionError):
            bench.tried(lambda held: (held.close("ac"), 1 // 0))
        self.assertEqual(stand(bench), (str(LINE), 0))

    def test_within_one_another(self):
        bench = Bench(LINE)

        def outer(held):
            held.close("ac")
            with self.assertRaises(Own):
                held.tried(inner)
            return held.changes

        def inner(held):
            held.keep("a")
            raise Own

        self.assertEqual([bench.tried(outer), bench.now], [1, closed_too(LINE, "ac")])


if __name__ == "__main__":
    unittest.main()
