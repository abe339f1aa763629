"""[2], [13] Keys, tops and seeds."""

import itertools
import unittest

from closerworks import keys as module
from closerworks.closers import Closer
from closerworks.errors import InvalidLot, NotACloser
from closerworks.keys import in_all_keys, in_some_key, keys, seeds, tops
from closerworks.lots import hitting
from closerworks.telling import by_rules
from tests.helpers import (Case, as_lot, closers_of, every_lot, example_closers, sample_closers, some_closers,
                           wrong_closers, wrong_lots)

SEVEN = "acegikz"
FLAT, LINE, FOUR = example_closers()


def all_samples():
    return sample_closers() + closers_of("abc") + some_closers("bdfh", 20, 17)


def least_told(lots):
    """The lots within which no other one lies."""
    return tuple(sorted(lot for lot in lots if not any(set(other) < set(lot) for other in lots)))


class Examples(unittest.TestCase):

    def test_example(self):
        flat, line, four = FLAT, LINE, FOUR
        self.assertEqual(
            [keys(four), tops(four), keys(flat), in_all_keys(line), in_some_key(flat), seeds(four, "cd"), seeds(flat, "abc"), keys(Closer("a", ("a",)))],
            [('ab',), ('acd', 'bcd'), ('ab', 'ac', 'bc'), 'ac', 'abc', ('c',), ('ab', 'ac', 'bc'), ('',)])


class Keys(Case):

    def test_what_a_key_is(self):
        for closer in all_samples():
            before = str(closer)
            lots = every_lot(closer.things)
            told = least_told([lot for lot in lots if closer.around(lot) == closer.things])
            self.assertEqual(keys(closer), told)
            self.assertIs(type(keys(closer)), tuple)
            self.assertEqual(in_all_keys(closer), as_lot(x for x in closer.things if all(x in key for key in told)))
            self.assertEqual(in_some_key(closer), as_lot("".join(told)))
            self.assertEqual(str(closer), before)

    def test_no_lesser_lot_within_a_key_is_one(self):
        for closer in all_samples():
            for key in keys(closer):
                self.assertEqual(closer.around(key), closer.things)
                for lot in every_lot(key):
                    self.assertIs(closer.around(lot) == closer.things, lot == key)

    def test_what_a_top_is(self):
        for closer in all_samples():
            lesser = [lot for lot in closer.closed if lot != closer.things]
            told = tuple(lot for lot in lesser if not any(set(lot) < set(other) for other in lesser))
            self.assertEqual(tops(closer), told)
            self.assertIs(type(tops(closer)), tuple)

    def test_the_keys_are_the_least_lots_that_hit_the_rests_of_all_tops(self):
        for closer in all_samples():
            rests = tuple(sorted(as_lot(set(closer.things) - set(top)) for top in tops(closer)))
            hits = [lot for lot in every_lot(closer.things) if all(set(lot) & set(other) for other in rests)]
            self.assertEqual(keys(closer), least_told(hits))
            self.assertEqual(keys(closer), hitting(closer.things, rests))

    def test_a_thing_is_in_all_keys_exactly_if_it_is_not_in_the_lot_around_all_others(self):
        for closer in all_samples():
            for thing in closer.things:
                others = closer.things.replace(thing, "")
                self.assertIs(thing in in_all_keys(closer), thing not in closer.around(others))

    def test_the_whole_alone_closed(self):
        for things in ("a", "abc", SEVEN):
            whole = Closer(things, (things,))
            self.assertEqual([keys(whole), tops(whole), in_all_keys(whole), in_some_key(whole)], [("",), (), "", ""])
            for lot in every_lot(things):
                self.assertEqual(seeds(whole, lot), ("",))

    def test_all_lots_closed(self):
        for things in ("a", "abc", SEVEN):
            everything = Closer(things, tuple(every_lot(things)))
            self.assertEqual([keys(everything), in_all_keys(everything), in_some_key(everything)], [(things,), things, things])
            self.assertEqual(tops(everything), tuple(lot for lot in every_lot(things) if len(lot) == len(things) - 1))
            for lot in every_lot(things):
                self.assertEqual(seeds(everything, lot), (lot,))

    def test_many_keys(self):
        lots = every_lot("abcdefg")
        threes = Closer("abcdefg", tuple(lot for lot in lots if len(lot) < 3 or len(lot) == 7))
        self.assertEqual(keys(threes), tuple("".join(three) for three in itertools.combinations("abcdefg", 3)))
        self.assertEqual(tops(threes), tuple(lot for lot in lots if len(lot) == 2))
        self.assertEqual([in_all_keys(threes), in_some_key(threes)], ["", "abcdefg"])
        self.assertEqual(in_some_key(by_rules("abc", (("", "a"), ("b", "c"), ("c", "b")))), "bc")


class Seeds(Case):

    def test_what_a_seed_is(self):
        for closer in all_samples():
            before = str(closer)
            lots = every_lot(closer.things)
            for lot in lots[::1 if len(lots) < 20 else 7]:
                same = [part for part in lots if closer.around(part) == closer.around(lot)]
                self.assertEqual(seeds(closer, lot), least_told(same), (before, lot))
            self.assertEqual(str(closer), before)

    def test_seeds_may_lie_outside_of_the_lot(self):
        both = by_rules("ab", (("a", "b"), ("b", "a")))
        self.assertEqual([seeds(both, "a"), seeds(both, "ab"), seeds(both, "")], [("a", "b"), ("a", "b"), ("",)])

    def test_the_seeds_of_the_whole_are_the_keys(self):
        for closer in all_samples():
            self.assertEqual(seeds(closer, closer.things), keys(closer))


class Calls(Case):

    def test_calls_and_wrong_inputs(self):
        for action in (keys, tops, in_all_keys, in_some_key):
            for closer in (FOUR, Closer("a", ("a",)), Closer(SEVEN, ("", SEVEN))):
                self.check_call(action, ("closer",), (closer,), [(NotACloser, wrong_closers())])

    def test_calls_and_wrong_inputs_of_seeds(self):
        for args in ((FOUR, "cd"), (Closer("a", ("a",)), ""), (Closer(SEVEN, ("", SEVEN)), "ac")):
            kinds = [(NotACloser, wrong_closers()), (InvalidLot, wrong_lots(args[0].things))]
            self.check_call(seeds, ("closer", "lot"), args, kinds)


class Module(unittest.TestCase):

    def test_all_is_defined_here(self):
        for name in ("keys", "tops", "seeds", "in_all_keys", "in_some_key"):
            self.assertEqual(getattr(module, name).__module__, "closerworks.keys")


if __name__ == "__main__":
    unittest.main()
