"""[2], [9], [17] Tables: shared marks, owners, concepts, arrows, and the least table of a closer."""

import itertools
import random
import unittest

from closerworks import tables as module
from closerworks.closers import Closer
from closerworks.errors import InvalidLot, InvalidNumbers, InvalidRows, InvalidThings, NotACloser, NotATable
from closerworks.tables import (Table, arrows_down, arrows_up, closer_of, concepts, least_table, owners,
                                shared_marks)
from closerworks.telling import by_family, corners
from tests.helpers import (Case, closers_of, every_family, every_lot, example_closers, meets_by_subsets, odd_tuples,
                           odd_values, odd_words, sample_closers, some_closers, wrong_closers, wrong_lots, wrong_numbers,
                           wrong_tables, wrong_things, wrong_tuples_of_lots)

SEVEN = "acegikz"
FLAT, LINE, FOUR = example_closers()
ROWS = Table("abc", ("ab", "bc", "b"))


def some_tables(things, many, seed):
    """Some tables, the same ones each time, those of no row and of one row, and some with rows alike, among them."""
    chance = random.Random(seed)
    lots = every_lot(things)
    yield Table(things, ())
    yield Table(things, (things,))
    yield Table(things, ("",))
    for _ in range(many):
        yield Table(things, tuple(chance.choice(lots) for _ in range(chance.randint(1, 7))))


def all_tables():
    """Tables of one, two, three, five and seven marks."""
    for things in ("a", "bz"):
        for rows in itertools.product(every_lot(things), repeat=2):
            yield Table(things, rows)
    for family in every_family("abc"):
        yield Table("abc", family[::-1])
    for things, seed in (("bdfhj", 1), (SEVEN, 2)):
        yield from some_tables(things, 25, seed)


def common_to(things, rows):
    return "".join(x for x in things if all(x in row for row in rows))


def told_table(table):
    """What a table shows of itself."""
    return table.things, table.rows


class Examples(unittest.TestCase):

    def test_examples(self):
        rows = Table("abc", ("ab", "bc", "b"))
        self.assertEqual(
            [shared_marks(rows, (0, 1)), owners(rows, "b"), owners(rows, "ac"), concepts(rows), closer_of(rows).closed, least_table(closer_of(rows)).rows, shared_marks(rows, ())],
            ['b', (0, 1, 2), (), (((0,), 'ab'), ((), 'abc'), ((0, 1, 2), 'b'), ((1,), 'bc')), ('ab', 'abc', 'b', 'bc'), ('ab', 'bc'), 'abc'])
        self.assertEqual(
            [arrows_down(rows), arrows_up(rows)],
            [((0, 'c'), (1, 'a')), ((0, 'c'), (1, 'a'), (2, 'a'), (2, 'c'))])


class Tables(Case):

    def test_what_a_table_keeps(self):
        for things, rows in (("abc", ("ab", "bc", "b")), ("a", ()), (SEVEN, ("z", "", "z", SEVEN)), ("bz", ("",) * 60)):
            for table in (Table(things, rows), Table(things=things, rows=rows), Table(rows=rows, things=things)):
                self.assertIs(type(table), Table)
                self.assertEqual((table.things, table.rows, len(table)), (things, rows, len(rows)))
                self.assertIs(type(table.rows), tuple)

    def test_each_table_is_true(self):
        for table in (ROWS, Table("a", ()), Table(SEVEN, ("",)), Table("ab", ("ab",) * 60)):
            self.assertIs(bool(table), True)

    def test_a_table_never_changes(self):
        for name in ("things", "rows"):
            with self.assertRaises(AttributeError):
                setattr(ROWS, name, ROWS.rows)
        self.assertEqual(told_table(ROWS), ("abc", ("ab", "bc", "b")))

    def test_equal_exactly_if_both_are(self):
        tables = [Table("abc", ("ab", "b")), Table("abc", ("b", "ab")), Table("abc", ("ab", "b", "b")), Table("abc", ()),
                  Table("abd", ("ab", "b")), Table("ab", ("ab", "b")), Table("ab", ()), Table("a", ())]
        for one, other in itertools.product(tables, repeat=2):
            same = told_table(one) == told_table(other)
            self.assertIs(one == other, same)
            self.assertIs(one != other, not same)
            again = Table("".join(list(other.things)), tuple(list(other.rows)))
            self.assertIs(one == again, same)
            self.assertIs(one != again, not same)

    def test_no_table_is_equal_to_a_value_of_another_class(self):
        values = odd_values() + odd_words() + odd_tuples() + ["", "abc", (), ("abc", ("ab", "bc", "b")), closer_of(ROWS), FLAT]
        for value in values:
            if not isinstance(value, Table):
                self.assertEqual([ROWS == value, value == ROWS, ROWS != value, value != ROWS], [False, False, True, True])

    def test_sixty_and_sixty_one_rows(self):
        for row in ("", "b", "abc"):
            self.assertEqual(len(Table("abc", (row,) * 60)), 60)
            self.check_raises(InvalidRows, 60, Table, "abc", (row,) * 61)
        self.check_raises(InvalidRows, 60, Table, SEVEN, tuple(every_lot(SEVEN)))
        self.check_raises(InvalidRows, 59, Table, "abc", ("a",) * 59 + ("d",) + ("a",) * 20)

    def test_calls_and_wrong_inputs(self):
        self.assertTrue(all(name in vars(Table) for name in ("__init__", "__len__", "__eq__", "things", "rows")))
        for things, rows in (("abc", ("ab", "bc", "b")), ("a", ()), (SEVEN, ("z", ""))):
            kinds = [(InvalidThings, wrong_things()), (InvalidRows, wrong_tuples_of_lots(things, 60))]
            self.check_call(Table, ("things", "rows"), (things, rows), kinds)


class Marks(Case):

    def test_shared_marks_and_owners(self):
        for table in all_tables():
            before = told_table(table)
            for size in range(len(table) + 1):
                for numbers in itertools.combinations(range(len(table)), size):
                    told = common_to(table.things, [table.rows[at] for at in numbers])
                    self.assertEqual(shared_marks(table, numbers), told)
            for lot in every_lot(table.things)[::1 if len(table.things) < 4 else 5]:
                told = tuple(at for at, row in enumerate(table.rows) if set(lot) <= set(row))
                self.assertEqual(owners(table, lot), told)
            self.assertEqual(told_table(table), before)

    def test_no_rows_and_all_rows(self):
        for table in all_tables():
            self.assertEqual(shared_marks(table, ()), table.things)
            self.assertEqual(owners(table, ""), tuple(range(len(table))))
            self.assertEqual(shared_marks(table, tuple(range(len(table)))), common_to(table.things, table.rows))
        sixty = Table("abc", ("ab",) * 59 + ("bc",))
        self.assertEqual([shared_marks(sixty, tuple(range(59))), shared_marks(sixty, tuple(range(60)))], ["ab", "b"])
        self.assertEqual([owners(sixty, "a"), owners(sixty, "c")], [tuple(range(59)), (59,)])

    def test_numbers(self):
        for numbers, has in (((3,), 0), ((0, 3), 1), ((1, 0), 1), ((0, 0), 1), ((0, 1, 1), 2), ((-1,), 0), ((True,), 0),
                             ((0, True), 1), ((False, 1), 0), ((0, 1, 2, 3), 3), ([0, 1], None), (0, None), (None, None)):
            self.check_raises(InvalidNumbers, has, shared_marks, ROWS, numbers)
        self.check_raises(InvalidNumbers, 0, shared_marks, Table("a", ()), (0,))

    def test_calls_and_wrong_inputs(self):
        for table, numbers in ((ROWS, (0, 2)), (Table("a", ()), ()), (Table(SEVEN, ("z",)), (0,))):
            kinds = [(NotATable, wrong_tables()), (InvalidNumbers, wrong_numbers(len(table)))]
            self.check_call(shared_marks, ("table", "numbers"), (table, numbers), kinds)
        for table, lot in ((ROWS, "b"), (Table("a", ()), ""), (Table(SEVEN, ("z",)), "ck")):
            kinds = [(NotATable, wrong_tables()), (InvalidLot, wrong_lots(table.things))]
            self.check_call(owners, ("table", "lot"), (table, lot), kinds)


class Concepts(Case):

    def test_what_a_concept_is(self):
        for table in all_tables():
            before = told_table(table)
            told = {}
            for size in range(len(table) + 1):
                for numbers in itertools.combinations(range(len(table)), size):
                    marks = common_to(table.things, [table.rows[at] for at in numbers])
                    told[marks] = tuple(at for at, row in enumerate(table.rows) if set(marks) <= set(row))
            self.assertEqual(concepts(table), tuple((told[lot], lot) for lot in sorted(told)))
            for numbers, lot in concepts(table):
                self.assertEqual((shared_marks(table, numbers), owners(table, lot)), (lot, numbers))
            self.assertEqual(told_table(table), before)

    def test_the_lots_of_concepts_are_the_closed_lots(self):
        for table in all_tables():
            closer = closer_of(table)
            self.assertIs(type(closer), Closer)
            self.assertEqual(closer.things, table.things)
            self.assertEqual(closer.closed, meets_by_subsets(table.things, tuple(sorted(set(table.rows)))))
            self.assertEqual(tuple(lot for _, lot in concepts(table)), closer.closed)
            for (some, one), (more, other) in itertools.combinations(concepts(table), 2):
                self.assertIs(set(one) <= set(other), set(more) <= set(some))

    def test_edges(self):
        self.assertEqual(concepts(Table("ab", ())), (((), "ab"),))
        self.assertEqual(concepts(Table("ab", ("ab", "ab"))), (((0, 1), "ab"),))
        self.assertEqual(concepts(Table("ab", ("", ""))), (((0, 1), ""), ((), "ab")))
        self.assertEqual(closer_of(Table("ab", ())).closed, ("ab",))

    def test_calls_and_wrong_inputs(self):
        for action in (concepts, closer_of, arrows_down, arrows_up):
            for table in (ROWS, Table("a", ()), Table(SEVEN, ("z", "z"))):
                self.check_call(action, ("table",), (table,), [(NotATable, wrong_tables())])


class Arrows(Case):

    def told(self, table):
        """The arrows down and up, by the words of the document."""
        rows = [set(row) for row in table.rows]
        held = {mark: {at for at, row in enumerate(rows) if mark in row} for mark in table.things}
        pairs = [(at, mark) for at in range(len(rows)) for mark in table.things if mark not in rows[at]]
        down = [(at, mark) for at, mark in pairs if all(mark in row for row in rows if row > rows[at])]
        up = [(at, mark) for at, mark in pairs if all(other in rows[at] for other in held if held[other] > held[mark])]
        return tuple(sorted(down)), tuple(sorted(up))

    def test_what_an_arrow_is(self):
        for table in all_tables():
            before = told_table(table)
            self.assertEqual((arrows_down(table), arrows_up(table)), self.told(table), before)
            self.assertEqual(told_table(table), before)

    def test_the_marks_of_a_row_are_a_corner_exactly_if_an_arrow_leads_down_from_it(self):
        for table in all_tables():
            found = corners(closer_of(table))
            rows = [at for at, _ in arrows_down(table)]
            for at, row in enumerate(table.rows):
                self.assertIs(row in found, at in rows)

    def test_edges(self):
        self.assertEqual([arrows_down(Table("ab", ())), arrows_up(Table("ab", ()))], [(), ()])
        self.assertEqual([arrows_down(Table("ab", ("ab",))), arrows_up(Table("ab", ("ab",)))], [(), ()])
        # Of rows alike no one has more than the other one, nor of marks with the same owners.
        twice = Table("abc", ("a", "a", "bc"))
        self.assertEqual(arrows_down(twice), ((0, "b"), (0, "c"), (1, "b"), (1, "c"), (2, "a")))
        self.assertEqual(arrows_up(twice), ((0, "b"), (0, "c"), (1, "b"), (1, "c"), (2, "a")))


class LeastTable(Case):

    def test_the_rows_are_the_corners(self):
        for closer in sample_closers() + closers_of("abc") + some_closers("bdfh", 20, 47):
            before = str(closer)
            found = least_table(closer)
            self.assertIs(type(found), Table)
            self.assertEqual(told_table(found), (closer.things, corners(closer)))
            self.assertEqual(closer_of(found), closer)
            self.assertEqual(str(closer), before)

    def test_no_table_of_the_closer_has_fewer_rows(self):
        for closer in closers_of("ab") + closers_of("abc"):
            fewer = len(least_table(closer)) - 1
            for rows in itertools.combinations(closer.closed, max(fewer, 0)):
                if fewer >= 0:
                    self.assertNotEqual(by_family(closer.things, rows), closer)

    def test_edges(self):
        for things in ("a", "abc", SEVEN):
            self.assertEqual(least_table(Closer(things, (things,))), Table(things, ()))
            self.assertEqual(least_table(Closer(things, ("", things))), Table(things, ("",)))
        threes = Closer("abcdefg", tuple(lot for lot in every_lot("abcdefg") if len(lot) < 4 or len(lot) == 7))
        self.assertEqual(len(least_table(threes)), 35)

    def test_calls_and_wrong_inputs(self):
        for closer in (FLAT, Closer("a", ("a",)), Closer(SEVEN, ("", SEVEN))):
            self.check_call(least_table, ("closer",), (closer,), [(NotACloser, wrong_closers())])


class Module(unittest.TestCase):

    def test_all_is_defined_here(self):
        for name in ("Table", "shared_marks", "owners", "concepts", "closer_of", "arrows_down", "arrows_up", "least_table"):
            self.assertEqual(getattr(module, name).__module__, "closerworks.tables")


if __name__ == "__main__":
    unittest.main()
