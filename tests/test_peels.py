"""[2], [23] Peels, the closer of rows, and the fewest rows."""

import itertools
import unittest

from closerworks import peels as module
from closerworks.closers import Closer
from closerworks.convex import ends, is_convex
from closerworks.errors import InvalidNumber, InvalidRows, InvalidThings, NotACloser, Swapped
from closerworks.peels import (by_peels, count_peels, fewest_rows, is_peel, peel_at, peels, side_by_side,
                               some_rows)
from closerworks.telling import by_family, corners
from closerworks.topologies import by_leads
from tests.helpers import (Case, closer_of_rows, closers_of, convex_samples, every_lot, example_closers, odd_tuples,
                           odd_values, odd_words, other_samples, some_rows_of, swaps_told, systems_of_four, tails_told,
                           wrong_closers, wrong_integers, wrong_strings, wrong_things)

SEVEN = "acegikz"
FLAT, LINE, FOUR = example_closers()
FORK = by_leads("abc", ("ab", "ac"))
BETWEEN = by_family("abcdefg", tuple(sorted("abcdefg"[at:end] for at in range(7) for end in range(at + 1, 8))))
ALL = Closer("abcdefg", tuple(every_lot("abcdefg")))
MARKED = (peels, count_peels, fewest_rows, some_rows, side_by_side)


def peels_told(closer):
    """All peels, by the words of the document."""
    rows = map("".join, itertools.permutations(closer.things))
    return tuple(row for row in rows if tails_told(row) <= set(closer.closed))


def most_apart_told(closer):
    """The greatest number of corners none of which is within another one, by looking at all families of them."""
    found = [set(lot) for lot in corners(closer)]
    most = 0
    chosen = [((), found)]
    while chosen:
        held, left = chosen.pop()
        most = max(most, len(held))
        for at, lot in enumerate(left):
            chosen.append((held + (lot,), [other for other in left[at + 1:] if not other <= lot and not lot <= other]))
    return most


class Examples(unittest.TestCase):

    def test_examples(self):
        line, fork, four = LINE, FORK, FOUR
        self.assertEqual(
            [peels(line), count_peels(line), peel_at(line, 2), is_peel(line, "bac"), by_peels("abc", ("abc", "cba")) == line, fewest_rows(line), by_peels("abc", some_rows(line)) == line, len(side_by_side(line))],
            [('abc', 'acb', 'cab', 'cba'), 4, 'cab', False, True, 2, True, 2])
        self.assertEqual(
            [count_peels(fork), fewest_rows(fork), count_peels(four), fewest_rows(four)],
            [2, 2, 6, 2])


class Peels(Case):

    def test_all_peels(self):
        for closer in convex_samples() + [LINE, FOUR, FORK]:
            before = str(closer)
            told = peels_told(closer)
            found = peels(closer)
            self.assertEqual(found, told, before)
            self.assertIs(type(found), tuple)
            self.assertEqual((type(count_peels(closer)), count_peels(closer)), (int, len(told)))
            for number in {0, 1, len(told) // 2, len(told) - 1} & set(range(len(told))):
                self.assertEqual(peel_at(closer, number), told[number])
            self.assertEqual(str(closer), before)

    def test_each_index(self):
        for closer in (LINE, FOUR, FORK, Closer("a", ("", "a")), BETWEEN):
            self.assertEqual(tuple(peel_at(closer, at) for at in range(count_peels(closer))), peels(closer))

    def test_whether_a_value_is_a_peel(self):
        for closer in convex_samples() + [LINE, FOUR]:
            told = set(peels_told(closer))
            for row in list(map("".join, itertools.permutations(closer.things)))[::1 if len(closer.things) < 6 else 37]:
                self.assertIs(is_peel(closer, row), row in told)
            for row in list(told)[:20]:
                self.assertIs(is_peel(closer, row), True)
                for other in (row[1:], row + row[0], row[:-1], row.upper(), tuple(row), list(row), row + " ", row.encode()):
                    self.assertIs(is_peel(closer, other), False, other)

    def test_any_value_can_be_asked_for(self):
        for closer in (LINE, FOUR, BETWEEN, Closer("a", ("", "a"))):
            for value in odd_values() + odd_tuples() + odd_words() + ["", (), ("a",), "cb", "abcd" * 9]:
                told = isinstance(value, str) and value in peels_told(closer)
                self.assertIs(is_peel(closer, value), told, value)
            self.assertIs(is_peel(closer=closer, row=closer.things[::-1]), closer is not FOUR)

    def test_each_end_can_be_taken_first(self):
        for closer in convex_samples():
            self.assertEqual("".join(sorted({row[0] for row in peels(closer)})), ends(closer, closer.things))

    def test_edges(self):
        one = Closer("a", ("", "a"))
        self.assertEqual([peels(one), count_peels(one), peel_at(one, 0), is_peel(one, "a")], [("a",), 1, "a", True])
        self.assertEqual([count_peels(ALL), peel_at(ALL, 0), peel_at(ALL, 5039)], [5040, "abcdefg", "gfedcba"])
        self.assertEqual(peels(ALL), tuple(map("".join, itertools.permutations("abcdefg"))))
        self.assertEqual([count_peels(BETWEEN), peel_at(BETWEEN, 0), peel_at(BETWEEN, 63)], [64, "abcdefg", "gfedcba"])
        chain = Closer(SEVEN, tuple(sorted(SEVEN[:at] for at in range(8))))
        self.assertEqual([peels(chain), fewest_rows(chain), some_rows(chain)], [(SEVEN[::-1],), 1, (SEVEN[::-1],)])

    def test_numbers_beyond(self):
        for closer in (LINE, FORK, Closer("a", ("", "a")), ALL):
            many = count_peels(closer)
            for number in wrong_integers(many - 1) + [many, many + 1, -1, -many, True, False]:
                self.check_raises(InvalidNumber, number, peel_at, closer, number)
                self.check_raises(InvalidNumber, number, peel_at, closer=closer, number=number)


class Swaps(Case):

    def test_closers_that_are_not_convex(self):
        seen = set()
        for closer in other_samples():
            told = swaps_told(closer) if closer.is_closed("") else [()]
            calls = [(action, (closer,)) for action in MARKED]
            calls += [(peel_at, (closer, 0)), (peel_at, (closer, None)), (peel_at, (closer, True)), (peel_at, (closer, -1))]
            calls += [(is_peel, (closer, value)) for value in (closer.things, None, [], 5, "")]
            for action, args in calls:
                before = str(closer)
                with self.assertRaises(Swapped) as caught:
                    action(*args)
                self.assertIs(type(caught.exception), Swapped)
                self.assertIn(caught.exception.given, told)
                self.assertIs(type(caught.exception.given), tuple)
                self.assertEqual(str(closer), before)
            seen.add(len(caught.exception.given))
        self.assertEqual(seen, {0, 3})

    def test_the_empty_lot_is_looked_at_first(self):
        self.check_raises(Swapped, (), peels, Closer("abc", ("a", "abc")))
        with self.assertRaises(Swapped) as caught:
            peel_at(Closer("bz", ("", "bz")), number="x")
        self.assertIn(caught.exception.given, (("", "b", "z"), ("", "z", "b")))

    def test_what_is_no_closer_comes_ahead(self):
        for action in MARKED:
            for closer in (LINE, FORK, Closer("a", ("", "a")), ALL):
                self.check_call(action, ("closer",), (closer,), [(NotACloser, wrong_closers())])
        for value, _ in wrong_closers():
            self.check_raises(NotACloser, value, peel_at, value, None)
            self.check_raises(NotACloser, value, is_peel, value, None)

    def test_calls(self):
        for closer, number in ((LINE, 2), (Closer("a", ("", "a")), 0), (ALL, 17)):
            wrongs = [(value, value) for value in wrong_integers(count_peels(closer) - 1)]
            kinds = [(NotACloser, wrong_closers()), (InvalidNumber, wrongs)]
            self.check_call(peel_at, ("closer", "number"), (closer, number), kinds)
        for closer in (LINE, ALL):
            self.assertIs(is_peel(closer, row=peel_at(closer, 1)), True)
            self.assertIs(is_peel(row=peel_at(closer, 1), closer=closer), True)


class Rows(Case):

    def test_the_closed_lots_are_the_meets_of_tails(self):
        for things in ("a", "bz", "abc", "bdfh", "abxyz", SEVEN):
            for rows in some_rows_of(things, 15, 3):
                found = by_peels(things, rows)
                self.assertIs(type(found), Closer)
                self.assertEqual(found, closer_of_rows(things, rows))
                self.assertIs(is_convex(found), True)
                self.assertTrue(set(rows) <= set(peels(found)))
                # In any order, and alike.
                self.assertEqual(by_peels(things, rows[::-1]), found)
                self.assertEqual(by_peels(things, rows + rows[:1] + rows), found)

    def test_each_convex_closer_is_that_of_all_its_peels(self):
        for closer in convex_samples():
            if count_peels(closer) <= 60:
                self.assertEqual(by_peels(closer.things, peels(closer)), closer)
            else:
                self.assertEqual(closer_of_rows(closer.things, peels(closer)[::7] + some_rows(closer)), closer)

    def test_exactly_the_convex_closers_come(self):
        rows = list(map("".join, itertools.permutations("abc")))
        found = {str(by_peels("abc", some)) for size in range(1, 7) for some in itertools.combinations(rows, size)}
        self.assertEqual(found, {str(closer) for closer in closers_of("abc")
                                 if closer.is_closed("") and not swaps_told(closer)})

    def test_edges(self):
        self.assertEqual(by_peels("a", ("a",)).closed, ("", "a"))
        self.assertEqual(by_peels("abc", ("bca",)).closed, ("", "a", "abc", "ac"))
        self.assertEqual(by_peels(SEVEN, (SEVEN[::-1],)).closed, tuple(sorted(SEVEN[:at] for at in range(8))))
        self.assertEqual(by_peels("ab", ("ab",) * 60).closed, ("", "ab", "b"))
        self.assertEqual(len(by_peels("abcdefg", tuple("abcdefg"[at:] + "abcdefg"[:at] for at in range(7)) * 8)), 128)
        sixty = tuple("".join(row) for row in itertools.islice(itertools.permutations("abcdefg"), 60))
        self.assertEqual(by_peels("abcdefg", sixty), closer_of_rows("abcdefg", sixty))
        more = tuple("".join(row) for row in itertools.islice(itertools.permutations("abcdefg"), 61))
        self.check_raises(InvalidRows, 60, by_peels, "abcdefg", more)
        self.check_raises(InvalidRows, 60, by_peels, "abcdefg", peels(ALL))
        self.check_raises(InvalidRows, None, by_peels, "abc", ())
        self.check_raises(InvalidRows, None, by_peels, "abc", ["abc"])
        self.check_raises(InvalidRows, 1, by_peels, "abc", ("abc", "abb"))

    def test_calls_and_wrong_inputs(self):
        for things, rows in (("abc", ("bca", "abc")), ("a", ("a",)), (SEVEN, (SEVEN, SEVEN[::-1]))):
            kinds = [(InvalidThings, wrong_things()), (InvalidRows, wrong_strings(things))]
            self.check_call(by_peels, ("things", "rows"), (things, rows), kinds)


class Fewest(Case):

    def check(self, closer):
        before = str(closer)
        least = fewest_rows(closer)
        self.assertEqual((type(least), least), (int, most_apart_told(closer)), before)
        rows = some_rows(closer)
        self.assertIs(type(rows), tuple)
        self.assertEqual(len(rows), least)
        self.assertEqual(rows, tuple(sorted(set(rows))))
        self.assertTrue(all(tails_told(row) <= set(closer.closed) for row in rows))
        self.assertEqual(closer_of_rows(closer.things, rows), closer)
        apart = side_by_side(closer)
        self.assertIs(type(apart), tuple)
        self.assertEqual(apart, tuple(sorted(set(apart))))
        self.assertEqual(len(apart), least)
        self.assertTrue(set(apart) <= set(corners(closer)))
        self.assertFalse(any(set(one) <= set(other) for one, other in itertools.permutations(apart, 2)))
        self.assertEqual(str(closer), before)

    def test_samples(self):
        for closer in convex_samples() + [LINE, FOUR, FORK, BETWEEN, ALL]:
            self.check(closer)

    def test_all_convex_closers_of_four_things(self):
        seen = {}
        for closed in systems_of_four():
            closer = Closer("abcd", closed)
            if closer.is_closed("") and not swaps_told(closer):
                self.check(closer)
                seen[fewest_rows(closer)] = seen.get(fewest_rows(closer), 0) + 1
        # The number of convex closers of four things is known.
        self.assertEqual([sum(seen.values()), sorted(seen)], [485, [1, 2, 3, 4]])

    def test_no_fewer_rows_will_do(self):
        for closer in convex_samples() + [LINE, FOUR, FORK]:
            if len(closer.things) > 4:
                continue
            rows = list(map("".join, itertools.permutations(closer.things)))
            for some in itertools.combinations(rows, fewest_rows(closer) - 1):
                self.assertFalse(some and closer_of_rows(closer.things, some) == closer)

    def test_many_rows(self):
        for seed in range(6):
            for rows in some_rows_of("abcdefg", 6, 100 + seed):
                self.check(by_peels("abcdefg", rows * 2))
        self.assertEqual([fewest_rows(ALL), len(some_rows(ALL)), side_by_side(ALL)],
                         [7, 7, ("abcdef", "abcdeg", "abcdfg", "abcefg", "abdefg", "acdefg", "bcdefg")])
        self.assertEqual([fewest_rows(BETWEEN), some_rows(BETWEEN)], [2, ("abcdefg", "gfedcba")])
        self.assertEqual([some_rows(Closer("a", ("", "a"))), side_by_side(Closer("a", ("", "a")))], [("a",), ("",)])


class Module(unittest.TestCase):

    def test_all_is_defined_here(self):
        for name in ("peels", "count_peels", "peel_at", "is_peel", "by_peels", "fewest_rows", "some_rows", "side_by_side"):
            self.assertEqual(getattr(module, name).__module__, "closerworks.peels")


if __name__ == "__main__":
    unittest.main()
