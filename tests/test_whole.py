"""[1], [2] Told in any of the ways, a closer is one closer; what can be asked in several ways has one answer."""

import itertools
import unittest

from closerworks.benches import Bench
from closerworks.books import is_of, plain_book, reasons, stem, stops
from closerworks.certificates import certify_finer, certify_kind, certify_open, certify_parts, certify_rows
from closerworks.checker import accepts
from closerworks.closers import Closer
from closerworks.comparing import all_closers, is_finer, mixed, renamed, shared, shut
from closerworks.console import Console
from closerworks.convex import ends, is_convex
from closerworks.desks import Desk, played
from closerworks.exchange import bases, by_bases, has_exchange, is_free, mirror, rank, rings
from closerworks.keys import in_all_keys, in_some_key, keys, seeds, tops
from closerworks.lots import all_lots, hitting, rest
from closerworks.orders import count_chains, is_distributive, is_half_modular, is_modular, right_below, roots
from closerworks.parts import keep_rules, loses, mild_parts, strict_parts
from closerworks.peels import by_peels, count_peels, fewest_rows, peels, side_by_side, some_rows
from closerworks.riddles import Riddle, count_fits, finest_fit, fits
from closerworks.rules import follows, holds
from closerworks.sheets import by_sheet, cut, sheet_of, together
from closerworks.tables import Table, closer_of, concepts, least_table
from closerworks.telling import by_family, by_rows, by_rules, corners
from closerworks.topologies import by_leads, is_topology, leads, pieces, words
from tests.helpers import Case, closers_of, convex_samples, every_lot, sample_closers, some_closers

KINDS = ("modular", "distributive", "topology", "convex", "exchange")


def all_samples():
    return sample_closers() + closers_of("abc")[::2] + some_closers("bdfh", 16, 3) + convex_samples()[20::3]


def told_in_all_ways(closer):
    """The same closer, told in all ways in which it can be."""
    things = closer.things
    found = [Closer(things, closer.closed), Closer.read(str(closer)), by_family(things, closer.closed)]
    found += [by_family(things, corners(closer)), by_rules(things, stem(closer)), by_rules(things, plain_book(closer))]
    found += [by_rows(things, corners(closer)[::-1]), by_sheet(things, sheet_of(closer)), closer_of(least_table(closer))]
    found += [closer_of(Table(things, corners(closer) * 1)), mixed(closer, closer), shared(closer, closer), shut(closer, "")]
    if is_topology(closer):
        found.append(by_leads(things, leads(closer)))
    if is_convex(closer):
        found.append(by_peels(things, some_rows(closer)))
    if has_exchange(closer):
        found += [by_bases(things, bases(closer, things)), mirror(mirror(closer))]
    if len(plain_book(closer)) <= 12:
        found.append(finest_fit(Riddle(things, tuple(rule + (True,) for rule in plain_book(closer)))))
    bench = Bench(Closer(things, (things,)))
    for corner in corners(closer):
        bench.close(corner)
    other = Bench(Closer(things, all_lots(things)))
    for rule in stem(closer):
        other.add(rule)
    desk = Desk()
    desk.put("x", closer)
    return found + [bench.now, other.now, played(desk.log).named("x"), Console(closer).bench.now]


def asked(closer):
    """What can be asked of a closer alone."""
    whole = closer.things
    return [str(closer), len(closer), corners(closer), stem(closer), stops(closer), plain_book(closer), keys(closer), tops(closer),
            in_all_keys(closer), in_some_key(closer), sheet_of(closer), concepts(least_table(closer)), right_below(closer),
            count_chains(closer), roots(closer), is_modular(closer), is_distributive(closer), is_half_modular(closer),
            is_topology(closer), leads(closer), pieces(closer), is_convex(closer), ends(closer, whole), has_exchange(closer),
            bases(closer, whole), rings(closer), seeds(closer, whole), words(closer, ""), certify_kind(closer, "modular"),
            Console(closer).say("stem"), Console(closer).say("rings"), Console(closer).say("convex")]


class OneCloser(Case):

    def test_told_in_any_of_the_ways(self):
        for closer in all_samples():
            for other in told_in_all_ways(closer):
                self.assertIs(type(other), Closer)
                self.assertEqual((other, str(other), other.closed), (closer, str(closer), closer.closed))
                self.assertTrue(all(other.around(lot) == closer.around(lot) for lot in every_lot(closer.things)[::3]))

    def test_the_same_can_be_asked(self):
        for closer in all_samples()[::4]:
            answers = asked(closer)
            for other in told_in_all_ways(closer)[::3]:
                self.assertEqual(asked(other), answers)

    def test_calls_with_equal_arguments_return_equal_results(self):
        for closer in all_samples()[::5]:
            self.assertEqual(asked(closer), asked(closer))
            self.assertEqual([strict_parts(closer), mild_parts(closer)], [strict_parts(closer), mild_parts(closer)])
            if is_convex(closer):
                self.assertEqual([some_rows(closer), side_by_side(closer)], [some_rows(closer), side_by_side(closer)])


class Meeting(Case):
    """Answers that can be had in several ways."""

    def test_rules(self):
        for closer in all_samples():
            book = stem(closer)
            self.assertTrue(is_of(closer, book))
            for needed, added in itertools.product(every_lot(closer.things)[::5], repeat=2):
                so = holds(closer, (needed, added))
                self.assertIs(follows(closer.things, book, (needed, added)), so)
                self.assertEqual(Console(closer).say(f"holds {needed or '-'} {added or '-'}"), "yes" if so else "no")
            for thing in closer.things:
                self.assertEqual([rule[0] for rule in plain_book(closer) if rule[1] == thing], list(reasons(closer, thing)))

    def test_keys(self):
        for closer in all_samples():
            things = closer.things
            rests = tuple(sorted(rest(things, lot) for lot in tops(closer)))
            self.assertEqual(keys(closer), hitting(things, rests))
            self.assertEqual(keys(closer), seeds(closer, things))
            self.assertEqual(in_all_keys(closer), ends(closer, things))
            self.assertTrue(all(is_free(closer, key) for key in keys(closer)))

    def test_parts(self):
        for closer in all_samples():
            sheet = sheet_of(closer)
            for parts in (strict_parts(closer), mild_parts(closer)):
                self.assertFalse(loses(closer, parts))
                self.assertEqual(together(closer.things, cut(closer.things, sheet, parts), parts), sheet)
                self.assertEqual(certify_parts(closer, parts)[0][0], "no loss")
            self.assertTrue(keep_rules(closer, mild_parts(closer)))

    def test_kinds(self):
        for closer in all_samples():
            desk = Desk()
            desk.put("x", closer)
            for word, so in (("modular", is_modular), ("distributive", is_distributive), ("topology", is_topology),
                             ("convex", is_convex), ("exchange", has_exchange)):
                self.assertEqual(certify_kind(closer, word)[0][0], word if so(closer) else "no " + word)
                self.assertEqual(Console(closer).say(word), "yes" if so(closer) else "no")
                self.assertTrue(accepts(*certify_kind(closer, word)))
                if so(closer):
                    desk.promise(("x", (word,)))
            self.assertEqual([vow[1][0] for vow in desk.promises],
                             [word for word in KINDS if Console(closer).say(word) == "yes"])
            if is_distributive(closer):
                self.assertTrue(is_modular(closer))
            if is_modular(closer):
                self.assertTrue(is_half_modular(closer))
            if has_exchange(closer):
                self.assertTrue(is_half_modular(closer))
                self.assertEqual(rank(closer, closer.things), len(right_chain(closer)))

    def test_rows(self):
        for closer in convex_samples():
            self.assertEqual(len(side_by_side(closer)), fewest_rows(closer))
            self.assertEqual(certify_rows(closer)[0][2], some_rows(closer))
            self.assertTrue(set(some_rows(closer)) <= set(peels(closer)))
            # A chain of a convex closer takes one thing after another away.
            self.assertEqual(count_chains(closer), count_peels(closer))

    def test_riddles(self):
        for closer in closers_of("abc")[::4]:
            answers = tuple((lot, thing, thing in closer.around(lot)) for lot in every_lot("abc") for thing in "abc"
                            if thing not in lot)
            riddle = Riddle("abc", answers)
            self.assertEqual([count_fits(riddle), finest_fit(riddle), fits(riddle, closer)], [1, closer, True])
            few = Riddle("abc", answers[:3])
            right = [other for other in all_closers("abc") if fits(few, other)]
            self.assertEqual([len(right), closer in right], [count_fits(few), True])
            self.assertTrue(all(is_finer(finest_fit(few), other) for other in right))
            self.assertEqual(certify_finer(finest_fit(few), closer)[0][0], "finer")
            self.assertTrue(all(certify_open(few, lot, thing) is None for lot, thing, _ in answers[:3]))

    def test_other_letters(self):
        for closer in all_samples()[::6]:
            letters = "qwertyu"[:len(closer.things)]
            back = dict(zip(letters, closer.things))
            other = renamed(closer, letters)
            self.assertEqual(len(keys(other)), len(keys(closer)))
            self.assertEqual({"".join(sorted(back[x] for x in key)) for key in keys(other)}, set(keys(closer)))
            self.assertEqual([len(stem(other)), count_chains(other), has_exchange(other), is_convex(other)],
                             [len(stem(closer)), count_chains(closer), has_exchange(closer), is_convex(closer)])


def right_chain(closer):
    """The steps of some chain."""
    above = {}
    for one, other in right_below(closer):
        above.setdefault(one, other)
    steps, lot = [], closer.around("")
    while lot in above:
        lot = above[lot]
        steps.append(lot)
    return steps


if __name__ == "__main__":
    unittest.main()
