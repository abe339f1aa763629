"""[2], [20], [21] Closers of topologies, leads, inner lots, rims, words and pieces."""

import itertools
import unittest

from closerworks import topologies as module
from closerworks.closers import Closer
from closerworks.errors import InvalidLeads, InvalidLot, InvalidThings, NotACloser
from closerworks.telling import by_rules
from closerworks.topologies import by_leads, inner, is_topology, leads, pieces, rim, words, wrong_union
from tests.helpers import (Case, as_lot, closers_of, every_lot, example_closers, sample_closers, some_closers,
                           wrong_closers, wrong_leads, wrong_lots, wrong_things)

SEVEN = "acegikz"
FLAT, LINE, FOUR = example_closers()
FORK = by_leads("abc", ("ab", "ac"))
FOURTEEN = by_leads("abcdefg", ("ac", "af", "bg", "dc", "de", "gb"))


def all_samples():
    return [FORK, FOURTEEN] + sample_closers() + closers_of("abc") + some_closers("bdfh", 20, 67)


def all_leads(things):
    """All ascending tuples of leads of up to three things."""
    pairs = sorted(one + other for one in things for other in things if one != other)
    for size in range(len(pairs) + 1):
        yield from itertools.combinations(pairs, size)


def goes_on(some):
    return all(one[0] + other[1] in some for one in some for other in some if one[1] == other[0] and one[0] != other[1])


def rest_of(things, lot):
    return as_lot(set(things) - set(lot))


class Examples(unittest.TestCase):

    def test_example(self):
        line, flat = LINE, FLAT
        fork = by_leads("abc", ("ab", "ac"))
        self.assertEqual(
            [fork.closed, leads(fork), is_topology(fork), is_topology(line), wrong_union(line), wrong_union(Closer("a", ("a",))), inner(fork, "ab"), rim(fork, "a"), words(fork, "b"), pieces(fork), pieces(flat)],
            [('', 'abc', 'b', 'bc', 'c'), ('ab', 'ac'), True, False, ('a', 'c'), (), 'ab', 'bc', ('', 'abc', 'ac', 'b'), ('abc',), ('a', 'b', 'c')])
        with self.assertRaises(InvalidLeads) as raised:
            by_leads("abc", ("ab", "bc"))
        self.assertIsNone(raised.exception.index)


class Unions(Case):

    def test_exactly_the_closers_of_topologies(self):
        seen = []
        for closer in all_samples():
            before = str(closer)
            closed = closer.closed
            bad = [(one, other) for one, other in itertools.combinations(closed, 2) if as_lot(one + other) not in closed]
            self.assertIs(is_topology(closer), "" in closed and not bad)
            found = wrong_union(closer)
            if "" not in closed:
                self.assertEqual((type(found), found), (tuple, ()))
            elif bad:
                self.assertIs(type(found), tuple)
                self.assertIn(found, bad)
            else:
                self.assertIsNone(found)
            seen.append(is_topology(closer))
            self.assertEqual(str(closer), before)
        self.assertGreater(min(seen.count(True), seen.count(False)), 20)

    def test_edges(self):
        for things in ("a", "abc", SEVEN):
            whole, two = Closer(things, (things,)), Closer(things, ("", things))
            everything = Closer(things, tuple(every_lot(things)))
            self.assertEqual([is_topology(whole), is_topology(two), is_topology(everything)], [False, True, True])
            self.assertEqual([wrong_union(whole), wrong_union(two), wrong_union(everything)], [(), None, None])
        # The empty lot is looked at first.
        self.assertEqual(wrong_union(Closer("abcd", ("a", "ab", "abcd", "ac"))), ())


class Leads(Case):

    def test_what_leads_where(self):
        for closer in all_samples():
            before = str(closer)
            told = sorted(one + other for one in closer.things for other in closer.around(one) if one != other)
            self.assertEqual(leads(closer), tuple(told))
            self.assertIs(type(leads(closer)), tuple)
            self.assertEqual(str(closer), before)

    def test_leads_that_go_on_are_those_of_just_one_closer_of_a_topology(self):
        for things in ("a", "bz", "abc"):
            topologies = [closer for closer in closers_of(things) if is_topology(closer)]
            found = []
            for some in all_leads(things):
                before = repr(some)
                if goes_on(some):
                    closer = by_leads(things, some)
                    self.assertIs(type(closer), Closer)
                    self.assertEqual((closer.things, leads(closer)), (things, some))
                    for lot in every_lot(things):
                        led = "".join(lead[1] for lead in some if lead[0] in lot)
                        self.assertEqual(closer.around(lot), as_lot(lot + led))
                    found.append(closer.closed)
                else:
                    self.check_raises(InvalidLeads, None, by_leads, things, some)
                self.assertEqual(repr(some), before)
            self.assertEqual(sorted(found), sorted(closer.closed for closer in topologies))
        self.assertEqual(len(found), 29)

    def test_the_closer_of_the_leads_of_a_topology_is_this_one(self):
        for closer in all_samples():
            again = by_leads(closer.things, leads(closer))
            self.assertIs(is_topology(again), True)
            self.assertIs(again == closer, is_topology(closer))

    def test_edges(self):
        for things in ("a", "abc", SEVEN):
            self.assertEqual(by_leads(things, ()).closed, tuple(every_lot(things)))
            both = tuple(sorted(one + other for one in things for other in things if one != other))
            self.assertEqual(by_leads(things, both).closed, ("", things))
            self.assertEqual(leads(Closer(things, (things,))), both)
        self.assertEqual(by_leads("abc", ("ab", "ba")).closed, ("", "ab", "abc", "c"))
        for some in (("ab", "ba", "bc"), ("ab", "ba", "ca"), ("ab", "bc", "ca"), ("ac", "cb")):
            self.check_raises(InvalidLeads, None, by_leads, "abc", some)
        self.check_raises(InvalidLeads, None, by_leads, SEVEN, ("ac", "ca", "ik", "kz"))

    def test_calls_and_wrong_inputs(self):
        for closer in (FORK, Closer("a", ("a",)), Closer(SEVEN, ("", SEVEN))):
            self.check_call(leads, ("closer",), (closer,), [(NotACloser, wrong_closers())])
        for args in (("abc", ("ab", "ac")), ("a", ()), (SEVEN, ("zi", "zk")), ("bz", ("bz", "zb"))):
            kinds = [(InvalidThings, wrong_things()), (InvalidLeads, wrong_leads(args[0]))]
            self.check_call(by_leads, ("things", "some"), args, kinds)


class Lots(Case):

    def test_inner_and_rim(self):
        for closer in all_samples():
            before = str(closer)
            for lot in every_lot(closer.things)[::1 if len(closer.things) < 7 else 5]:
                told = set(closer.things) - set(closer.around(rest_of(closer.things, lot)))
                self.assertEqual(inner(closer, lot), as_lot(told))
                self.assertEqual(rim(closer, lot), as_lot(set(closer.around(lot)) - told))
            self.assertEqual(str(closer), before)

    def test_words(self):
        for closer in all_samples():
            before = str(closer)
            for lot in every_lot(closer.things)[::1 if len(closer.things) < 7 else 9]:
                come, more = set(), {lot}
                while more:
                    come |= more
                    more = {closer.around(x) for x in come} | {rest_of(closer.things, x) for x in come}
                    more -= come
                self.assertEqual(words(closer, lot), tuple(sorted(come)), (before, lot))
                self.assertLessEqual(len(come), 14)
            self.assertEqual(str(closer), before)

    def test_fourteen_words_and_two(self):
        self.assertEqual(len(words(FOURTEEN, "abce")), 14)
        self.assertEqual(words(FOURTEEN, ""), ("", "abcdefg"))
        for things in ("a", "abc", SEVEN):
            everything = Closer(things, tuple(every_lot(things)))
            for lot in every_lot(things):
                self.assertEqual(words(everything, lot), tuple(sorted([lot, rest_of(things, lot)])))
            self.assertEqual(words(Closer(things, (things,)), things), ("", things))

    def test_edges(self):
        for things in ("a", "abc", SEVEN):
            whole = Closer(things, (things,))
            self.assertEqual([inner(whole, ""), inner(whole, things), rim(whole, ""), rim(whole, things)],
                             ["", "", things, things])
            two = Closer(things, ("", things))
            self.assertEqual([inner(two, ""), inner(two, things), rim(two, ""), rim(two, things)], ["", things, "", ""])
        self.assertEqual([inner(FLAT, "ab"), rim(FLAT, "ab"), inner(FLAT, "c"), rim(FLAT, "c")], ["ab", "c", "", "c"])

    def test_calls_and_wrong_inputs(self):
        for action in (inner, rim, words):
            for args in ((FORK, "ab"), (Closer("a", ("a",)), ""), (Closer(SEVEN, ("", SEVEN)), "ac")):
                kinds = [(NotACloser, wrong_closers()), (InvalidLot, wrong_lots(args[0].things))]
                self.check_call(action, ("closer", "lot"), args, kinds)
        for action in (is_topology, wrong_union, pieces):
            for closer in (FORK, LINE, Closer("a", ("a",)), Closer(SEVEN, ("", SEVEN))):
                self.check_call(action, ("closer",), (closer,), [(NotACloser, wrong_closers())])


class Pieces(Case):

    def test_the_least_lots_with_all_that_leads_in_and_out(self):
        for closer in all_samples():
            before = str(closer)
            some = leads(closer)
            whole = [lot for lot in every_lot(closer.things)[1:]
                     if all((lead[0] in lot) == (lead[1] in lot) for lead in some)]
            told = [lot for lot in whole if not any(set(other) < set(lot) for other in whole)]
            self.assertEqual(pieces(closer), tuple(told))
            self.assertIs(type(pieces(closer)), tuple)
            self.assertEqual(str(closer), before)

    def test_edges(self):
        for things in ("a", "abc", SEVEN):
            self.assertEqual(pieces(Closer(things, (things,))), (things,))
            self.assertEqual(pieces(Closer(things, tuple(every_lot(things)))), tuple(things))
        self.assertEqual(pieces(by_leads("abcd", ("ac", "dc"))), ("acd", "b"))
        self.assertEqual(pieces(FOURTEEN), ("acdef", "bg"))
        # The leads of any closer count: here a leads to c alone, but with b also to d.
        self.assertEqual(pieces(by_rules("abcd", (("a", "c"), ("ab", "d")))), ("ac", "b", "d"))


class Module(unittest.TestCase):

    def test_all_is_defined_here(self):
        for name in ("is_topology", "wrong_union", "leads", "by_leads", "inner", "rim", "words", "pieces"):
            self.assertEqual(getattr(module, name).__module__, "closerworks.topologies")


if __name__ == "__main__":
    unittest.main()
