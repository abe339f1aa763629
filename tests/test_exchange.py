"""[2], [24], [25] Exchange, free lots, bases, rings, ranks, mirrors, weights."""

import itertools
import random
import unittest

from closerworks import exchange as module
from closerworks.closers import Closer
from closerworks.convex import ends
from closerworks.errors import (Barred, InvalidBases, InvalidFamily, InvalidLot, InvalidThings, InvalidWeights,
                                NotACloser)
from closerworks.exchange import (barring, bases, by_bases, greedy, has_exchange, heaviest, is_free, mirror, rank,
                                  rings)
from closerworks.keys import keys
from closerworks.telling import by_family, by_rules
from tests.helpers import (Case, as_lot, bars_told, closers_of, every_family, every_lot, example_closers,
                           sample_closers, some_closers, systems_of_four, wrong_closers, wrong_families, wrong_lots,
                           wrong_things, wrong_weights)

SEVEN = "acegikz"
FLAT, LINE, FOUR = example_closers()
# The seven points of a plane: its lines are closed.
PLANE = by_family("abcdefg", ("abc", "ade", "afg", "bdf", "beg", "cdg", "cef"))
THREES = Closer("abcdefg", tuple(lot for lot in every_lot("abcdefg") if len(lot) < 3 or len(lot) == 7))


def all_samples():
    return [PLANE, THREES] + sample_closers() + closers_of("abc") + some_closers("bdfh", 30, 83)


def with_exchange():
    return [closer for closer in all_samples() if not bars_told(closer)]


def without_exchange():
    return [closer for closer in all_samples() if bars_told(closer)]


def free_told(closer, lot):
    return all(thing not in closer.around(lot.replace(thing, "")) for thing in lot)


def greatest_told(lots):
    return tuple(sorted(lot for lot in lots if not any(set(lot) < set(other) for other in lots)))


def bases_told(closer, lot):
    return greatest_told([part for part in every_lot(lot) if free_told(closer, part)])


def base_families_of(things, closers):
    """The families of the bases of the whole of those closers that have exchange."""
    return {bases_told(closer, things): closer for closer in closers if not bars_told(closer)}


class Examples(Case):

    def test_examples(self):
        flat, line, four = FLAT, LINE, FOUR
        self.assertEqual(
            [has_exchange(flat), has_exchange(line), barring(line) in (("a", "c", "b"), ("c", "a", "b")), bases(flat, "abc"), rings(flat), rank(flat, "ab"), mirror(flat).closed, by_bases("abc", ("ab", "ac", "bc")) == flat],
            [True, False, True, ('ab', 'ac', 'bc'), ('abc',), 2, ('', 'abc'), True])
        self.assertEqual(
            [greedy(flat, (3, 1, 2)), heaviest(flat, (3, 1, 2)), bases(line, "abc"), rings(line), is_free(four, "cd"), bases(four, "abcd"), greedy(four, (1, 1, 5, 0)), heaviest(four, (1, 1, 5, 0))],
            ['ac', (5, 'ac'), ('ab', 'ac', 'bc'), ('abc',), False, ('ab', 'ac', 'ad', 'bc', 'bd'), 'ac', (6, 'ac')])
        self.check_raises(InvalidBases, None, by_bases, "abc", ("a", "bc"))


class Kinds(Case):

    def test_what_bars_exchange(self):
        seen = []
        for closer in all_samples():
            before = str(closer)
            told = bars_told(closer)
            found = barring(closer)
            self.assertIs(has_exchange(closer), not told, before)
            if told:
                self.assertIs(type(found), tuple)
                self.assertIn(found, told)
            else:
                self.assertIsNone(found)
            seen.append(has_exchange(closer))
            self.assertEqual(str(closer), before)
        self.assertGreater(min(seen.count(True), seen.count(False)), 20)

    def test_edges(self):
        for things in ("a", "abc", SEVEN):
            for closer in (Closer(things, (things,)), Closer(things, ("", things)), Closer(things, tuple(every_lot(things)))):
                self.assertEqual([has_exchange(closer), barring(closer)], [True, None])
        self.assertEqual([has_exchange(PLANE), has_exchange(THREES)], [True, True])
        self.assertEqual(barring(by_rules("bz", (("b", "z"),))), ("", "b", "z"))

    def test_the_number_of_closers_with_exchange_is_known(self):
        self.assertEqual(sum(has_exchange(closer) for closer in closers_of("a")), 2)
        self.assertEqual(sum(has_exchange(closer) for closer in closers_of("bz")), 5)
        self.assertEqual(sum(has_exchange(closer) for closer in closers_of("abc")), 16)
        self.assertEqual(sum(has_exchange(Closer("abcd", closed)) for closed in systems_of_four()), 68)

    def test_calls_and_wrong_inputs(self):
        for action in (has_exchange, barring, rings):
            for closer in (LINE, FLAT, Closer("a", ("a",)), Closer(SEVEN, ("", SEVEN))):
                self.check_call(action, ("closer",), (closer,), [(NotACloser, wrong_closers())])


class FreeLots(Case):

    def test_free_lots_and_bases_and_rings(self):
        for closer in all_samples():
            before = str(closer)
            lots = every_lot(closer.things)
            free = [lot for lot in lots if free_told(closer, lot)]
            for lot in lots:
                self.assertIs(is_free(closer, lot), lot in free, (before, lot))
                self.assertIs(is_free(closer, lot), ends(closer, lot) == lot)
            for lot in lots[::1 if len(closer.things) < 7 else 9] + [closer.things]:
                found = bases(closer, lot)
                self.assertEqual(found, greatest_told([part for part in free if set(part) <= set(lot)]), (before, lot))
                self.assertIs(type(found), tuple)
            bound = [lot for lot in lots if lot not in free]
            least = tuple(lot for lot in bound if not any(set(other) < set(lot) for other in bound))
            self.assertEqual((type(rings(closer)), rings(closer)), (tuple, least))
            self.assertEqual(str(closer), before)

    def test_a_lot_within_a_free_one_is_free(self):
        for closer in all_samples():
            free = [lot for lot in every_lot(closer.things) if is_free(closer, lot)]
            self.assertTrue(all(lot.replace(thing, "") in free for lot in free for thing in lot))

    def test_edges(self):
        for things in ("a", "abc", SEVEN):
            whole, two = Closer(things, (things,)), Closer(things, ("", things))
            everything = Closer(things, tuple(every_lot(things)))
            self.assertEqual([bases(whole, things), rings(whole), is_free(whole, "")], [("",), tuple(things), True])
            self.assertEqual([bases(two, things), bases(two, "")], [tuple(things), ("",)])
            self.assertEqual(rings(two), tuple(sorted(map("".join, itertools.combinations(things, 2)))))
            self.assertEqual([bases(everything, things), rings(everything)], [(things,), ()])
        # A base is a free lot within no other one, whatever its number of things.
        uneven = by_rules("abcd", (("d", "abc"),))
        self.assertEqual([bases(uneven, "abcd"), bases(uneven, "cd")], [("abc", "d"), ("c", "d")])

    def test_calls_and_wrong_inputs(self):
        for action in (is_free, bases):
            for args in ((FOUR, "cd"), (Closer("a", ("a",)), ""), (Closer(SEVEN, ("", SEVEN)), "ac")):
                kinds = [(NotACloser, wrong_closers()), (InvalidLot, wrong_lots(args[0].things))]
                self.check_call(action, ("closer", "lot"), args, kinds)


class Ranks(Case):

    def test_all_bases_of_a_lot_have_so_many_things(self):
        for closer in with_exchange():
            before = str(closer)
            for lot in every_lot(closer.things)[::1 if len(closer.things) < 7 else 5]:
                found = rank(closer, lot)
                self.assertIs(type(found), int)
                self.assertEqual({len(base) for base in bases_told(closer, lot)}, {found})
                self.assertEqual({closer.around(base) for base in bases_told(closer, lot)}, {closer.around(lot)})
            self.assertEqual(bases(closer, closer.things), keys(closer))
            self.assertEqual(str(closer), before)

    def test_what_says_the_same(self):
        for closer in all_samples():
            alike = all(len({len(base) for base in found}) == 1 and len({closer.around(base) for base in found}) == 1
                        for found in (bases(closer, lot) for lot in every_lot(closer.things)))
            self.assertIs(alike, has_exchange(closer))

    def test_edges(self):
        self.assertEqual([rank(Closer("a", ("a",)), "a"), rank(Closer("a", ("", "a")), "a"), rank(FLAT, "")], [0, 1, 0])
        self.assertEqual([rank(PLANE, lot) for lot in ("", "g", "ab", "abc", "abd", "abcdefg")], [0, 1, 2, 2, 3, 3])
        self.assertEqual(rank(Closer(SEVEN, tuple(every_lot(SEVEN))), SEVEN), 7)

    def test_closers_without_exchange(self):
        for closer in without_exchange():
            before = str(closer)
            for action, args in ((rank, (closer, "")), (rank, (closer, closer.things)), (mirror, (closer,))):
                with self.assertRaises(Barred) as caught:
                    action(*args)
                self.assertIs(type(caught.exception), Barred)
                self.assertIs(type(caught.exception.given), tuple)
                self.assertIn(caught.exception.given, bars_told(closer))
            self.assertEqual(str(closer), before)
        # What bars exchange is told behind what is no lot.
        for wrong in ("d", None, "ca", ["a"], True):
            self.check_raises(InvalidLot, wrong, rank, LINE, wrong)

    def test_calls_and_wrong_inputs(self):
        for args in ((FLAT, "ab"), (Closer("a", ("a",)), ""), (Closer(SEVEN, ("", SEVEN)), "ac")):
            kinds = [(NotACloser, wrong_closers()), (InvalidLot, wrong_lots(args[0].things))]
            self.check_call(rank, ("closer", "lot"), args, kinds)
            self.check_call(mirror, ("closer",), args[:1], [(NotACloser, wrong_closers())])


class Mirrors(Case):

    def test_the_bases_are_the_rests_of_bases(self):
        for closer in with_exchange():
            before = str(closer)
            found = mirror(closer)
            self.assertIs(type(found), Closer)
            self.assertEqual(found.things, closer.things)
            self.assertEqual(bars_told(found), [])
            told = {as_lot(set(closer.things) - set(base)) for base in bases_told(closer, closer.things)}
            self.assertEqual(set(bases_told(found, closer.things)), told)
            self.assertEqual(mirror(found), closer)
            self.assertEqual(str(closer), before)

    def test_edges(self):
        for things in ("a", "abc", SEVEN):
            whole, everything = Closer(things, (things,)), Closer(things, tuple(every_lot(things)))
            self.assertEqual([mirror(whole), mirror(everything)], [everything, whole])
        # Of three things just the lines stay closed, and their rests are closed, too.
        found = mirror(PLANE)
        self.assertEqual([rank(found, "abcdefg"), len(found)], [4, 1 + 7 + 21 + 7 + 7 + 1])
        self.assertTrue(all(found.is_closed(lot) for lot in ("abc", "defg", "cef", "abdg")))


class ByBases(Case):

    def test_exactly_the_families_of_bases(self):
        for things in ("a", "bz", "abc"):
            right = base_families_of(things, closers_of(things))
            for family in every_family(things):
                if family in right:
                    self.assertEqual(by_bases(things, family), right[family])
                else:
                    self.check_raises(InvalidBases, None, by_bases, things, family)

    def test_families_of_lots_of_four_things(self):
        right = base_families_of("abcd", [Closer("abcd", closed) for closed in systems_of_four()])
        self.assertEqual(len(right), 68)
        done = 0
        for size in range(5):
            lots = list(map("".join, itertools.combinations("abcd", size)))
            for many in range(len(lots) + 1):
                for family in itertools.combinations(lots, many):
                    if family in right:
                        self.assertEqual(by_bases("abcd", family), right[family])
                        done += 1
                    else:
                        self.check_raises(InvalidBases, None, by_bases, "abcd", family)
        self.assertEqual(done, 68)

    def test_bases_of_unlike_sizes_are_none(self):
        chance = random.Random(5)
        for _ in range(300):
            family = tuple(sorted(chance.sample(every_lot("abcd"), chance.randint(2, 6))))
            if len({len(lot) for lot in family}) > 1:
                self.check_raises(InvalidBases, None, by_bases, "abcd", family)

    def test_of_the_bases_of_a_closer_the_closer_comes(self):
        for closer in with_exchange():
            family = bases(closer, closer.things)
            found = by_bases(closer.things, family)
            self.assertIs(type(found), Closer)
            self.assertEqual(found, closer)

    def test_closers_without_exchange(self):
        # Their bases may be those of another closer, which has exchange.
        for closer in without_exchange():
            family = bases(closer, closer.things)
            try:
                found = by_bases(closer.things, family)
            except InvalidBases as error:
                self.assertIsNone(error.index)
            else:
                self.assertNotEqual(found, closer)
                self.assertEqual([bars_told(found), bases_told(found, closer.things)], [[], family])

    def test_edges(self):
        for things in ("a", "abc", SEVEN):
            self.assertEqual(by_bases(things, ("",)), Closer(things, (things,)))
            self.assertEqual(by_bases(things, (things,)), Closer(things, tuple(every_lot(things))))
            self.check_raises(InvalidBases, None, by_bases, things, ())
            self.check_raises(InvalidBases, None, by_bases, things, ("", things[0]))
            self.check_raises(InvalidBases, None, by_bases, things, tuple(every_lot(things)))
        self.check_raises(InvalidBases, None, by_bases, "abcd", ("ab", "cd"))
        self.assertEqual(by_bases("abcd", ("ab",)).closed, ("abcd", "acd", "bcd", "cd"))
        self.assertEqual(by_bases("abcdefg", bases(THREES, "abcdefg")), THREES)

    def test_what_is_no_family_comes_ahead(self):
        self.check_raises(InvalidFamily, 1, by_bases, "abc", ("bc", "ab"))
        self.check_raises(InvalidFamily, 1, by_bases, "abc", ("a", "d"))
        self.check_raises(InvalidFamily, None, by_bases, "abc", ["ab"])

    def test_calls_and_wrong_inputs(self):
        for things, family in (("abc", ("ab", "ac")), ("a", ("",)), (SEVEN, (SEVEN,))):
            kinds = [(InvalidThings, wrong_things()), (InvalidFamily, wrong_families(things))]
            self.check_call(by_bases, ("things", "family"), (things, family), kinds)


class Weights(Case):

    def weights_for(self, things, seed):
        chance = random.Random(seed)
        many = len(things)
        yield (0,) * many
        yield (1000000,) * many
        yield (-1000000,) * many
        yield tuple(range(many))
        yield tuple(range(many, 0, -1))
        for most in (1, 2, 1000000):
            for _ in range(4):
                yield tuple(chance.randint(-most, most) for _ in range(many))

    def greedy_told(self, closer, weights):
        taken = ""
        for at in sorted(range(len(closer.things)), key=lambda at: (-weights[at], closer.things[at])):
            more = as_lot(taken + closer.things[at])
            taken = more if free_told(closer, more) else taken
        return taken

    def test_greedy_and_heaviest(self):
        for closer in all_samples():
            before = str(closer)
            heavy = dict(zip(closer.things, range(7)))
            bases_of_all = bases_told(closer, closer.things)
            for weights in self.weights_for(closer.things, len(closer)):
                found = greedy(closer, weights)
                self.assertEqual((type(found), found), (str, self.greedy_told(closer, weights)))
                self.assertIn(found, bases_of_all)
                sums = [sum(weights[heavy[thing]] for thing in base) for base in bases_of_all]
                most = heaviest(closer, weights)
                self.assertEqual(most, (max(sums), bases_of_all[sums.index(max(sums))]))
                self.assertEqual([type(most), type(most[0])], [tuple, int])
                if not bars_told(closer):
                    self.assertEqual(sums[bases_of_all.index(found)], most[0])
            self.assertEqual(str(closer), before)

    def test_when_the_greedy_base_is_a_heaviest_one_for_all_weights(self):
        for closer in closers_of("abc") + some_closers("bdfh", 30, 84):
            things = closer.things
            alike = all(len({len(base) for base in bases(closer, lot)}) == 1 for lot in every_lot(things))
            right = True
            for weights in itertools.product((-1, 2, 3), repeat=len(things)):
                base = greedy(closer, weights)
                right &= sum(weights[things.index(thing)] for thing in base) == heaviest(closer, weights)[0]
            self.assertTrue(right or not alike)
            if len(things) == 3:
                self.assertIs(right, alike)

    def test_a_closer_by_which_greed_does_not_pay(self):
        uneven = by_rules("abcd", (("d", "abc"),))
        self.assertEqual([greedy(uneven, (2, 2, 2, 3)), heaviest(uneven, (2, 2, 2, 3))], ["d", (6, "abc")])

    def test_edges(self):
        self.assertEqual([greedy(FLAT, (1, 1, 1)), heaviest(FLAT, (1, 1, 1))], ["ab", (2, "ab")])
        self.assertEqual([greedy(FLAT, (0, 1, 1)), heaviest(FLAT, (0, 1, 1))], ["bc", (2, "bc")])
        self.assertEqual([greedy(FLAT, (-5, -4, -3)), heaviest(FLAT, (-5, -4, -3))], ["bc", (-7, "bc")])
        self.assertEqual([greedy(FLAT, (-10 ** 6,) * 3), heaviest(FLAT, (10 ** 6,) * 3)], ["ab", (2000000, "ab")])
        whole = Closer(SEVEN, (SEVEN,))
        self.assertEqual([greedy(whole, (5,) * 7), heaviest(whole, (5,) * 7)], ["", (0, "")])
        everything = Closer(SEVEN, tuple(every_lot(SEVEN)))
        self.assertEqual([greedy(everything, (-1,) * 7), heaviest(everything, (-1,) * 7)], [SEVEN, (-7, SEVEN)])
        self.assertEqual([greedy(Closer("a", ("", "a")), (-3,)), heaviest(Closer("a", ("a",)), (-3,))], ["a", (0, "")])

    def test_wrong_weights(self):
        for weights, index in (((1, 2), 2), ((), 0), ((1, 2, 3, 4), 3), ((1, True, 3), 1), ((1000001, 0, 0), 0),
                               ((0, 0, -1000001), 2), ([1, 2, 3], None), ("abc", None), ((1, None), 1), ((1, 2, 3, None), 3),
                               ((1, 2, "3", 4), 2), (None, None), ((0, (1,), 0), 1)):
            self.check_raises(InvalidWeights, index, greedy, FLAT, weights)
            self.check_raises(InvalidWeights, index, heaviest, LINE, weights)

    def test_calls_and_wrong_inputs(self):
        for action in (greedy, heaviest):
            for args in ((FOUR, (1, -2, 10 ** 6, 0)), (Closer("a", ("a",)), (7,)), (Closer(SEVEN, ("", SEVEN)), (-1,) * 7)):
                kinds = [(NotACloser, wrong_closers()), (InvalidWeights, wrong_weights(args[0].things))]
                self.check_call(action, ("closer", "weights"), args, kinds)


class Module(unittest.TestCase):

    def test_all_is_defined_here(self):
        for name in ("has_exchange", "barring", "is_free", "bases", "rings", "rank", "mirror", "by_bases", "greedy",
                     "heaviest"):
            self.assertEqual(getattr(module, name).__module__, "closerworks.exchange")


if __name__ == "__main__":
    unittest.main()
