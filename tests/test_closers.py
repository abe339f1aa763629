"""[2], [3], [8] Closers."""

import itertools
import unittest

from closerworks.closers import Closer
from closerworks.errors import InvalidClosed, InvalidLot, InvalidText, InvalidThings
from tests.helpers import (Case, all_systems_of, around_in, every_family, every_lot, example_closers, no_tuples,
                           odd_tuples, odd_values, odd_words, sample_closers, wrong_lots, wrong_members, wrong_things)

SEVEN = "acegikz"
FLAT, LINE, FOUR = example_closers()


def wrong_closed(things):
    """Values that are no families with the whole and all their meets, each with the index that the error has."""
    first = things[0]
    found = no_tuples() + [([things], None), (["", things], None), ((), None)]
    for member in wrong_members(things):
        found += [((member,), 0), (("", things, member), 2), (("", member, things), 1), ((things, member), 1)]
    found += [((things, things), 1), ((things, ""), 1), (("", "", things), 1), (("",), None)]
    if len(things) > 1:
        found += [((first,), None), (("", first), None), ((things, first), 1), (("", things, first, "?"), 2)]
        found += [((first, things, things[1]), None), ((first, things, things[-1]), None), (tuple(things), None)]
    return found


class Examples(Case):

    def test_first_example(self):
        flat = Closer("abc", ("", "a", "abc", "b", "c"))
        self.assertEqual(
            [flat.around("ab"), flat.is_closed("b"), len(flat), str(flat), Closer.read("abc - a abc b c") == flat, flat.around("")],
            ['abc', True, 5, 'abc - a abc b c', True, ''])

    def test_second_example(self):
        self.check_raises(InvalidClosed, None, Closer, "ab", ("a", "ab", "b"))


class Made(Case):

    def test_by_position_and_by_name(self):
        closed = ("", "a", "ab")
        for closer in (Closer("ab", closed), Closer(things="ab", closed=closed), Closer(closed=closed, things="ab"),
                       Closer("ab", closed=closed)):
            self.assertIs(type(closer), Closer)
            self.assertEqual([closer.things, closer.closed], ["ab", closed])

    def test_just_the_families_with_the_whole_and_all_meets(self):
        for things in ("a", "z", "ab", "abc", "cnx"):
            right = all_systems_of(things)
            for family in every_family(things):
                if family in right:
                    self.assertEqual(Closer(things, family).closed, family)
                else:
                    self.check_raises(InvalidClosed, None, Closer, things, family)
        self.assertEqual(len(all_systems_of("cnx")), 61)

    def test_seven_things(self):
        lots = tuple(every_lot(SEVEN))
        closer = Closer(SEVEN, lots)
        self.assertEqual([closer.closed, len(closer)], [lots, 128])
        self.assertTrue(all(closer.around(lot) == lot and closer.is_closed(lot) for lot in lots))
        for wanting in lots:
            # Each lot but the whole and those with six things is a meet of others.
            left = tuple(lot for lot in lots if lot != wanting)
            if len(wanting) == 6:
                self.assertEqual(len(Closer(SEVEN, left)), 127)
            else:
                self.check_raises(InvalidClosed, None, Closer, SEVEN, left)

    def test_calls_and_wrong_inputs(self):
        for args in (("abc", ("", "a", "abc", "b")), ("a", ("a",)), (SEVEN, (SEVEN,))):
            kinds = [(InvalidThings, wrong_things()), (InvalidClosed, wrong_closed(args[0]))]
            self.check_call(Closer, ("things", "closed"), args, kinds)

    def test_the_first_wrong_element_is_told_ahead_of_what_is_wanting(self):
        self.check_raises(InvalidClosed, 2, Closer, "abc", ("ab", "bc", "b"))
        self.check_raises(InvalidClosed, 2, Closer, "abc", ("ab", "bc", None))
        self.check_raises(InvalidClosed, 0, Closer, "abc", ("d", "abc"))
        self.check_raises(InvalidClosed, 1, Closer, "abc", ("abc", "abc"))
        self.check_raises(InvalidClosed, None, Closer, "abc", ("ab", "abc", "bc"))
        self.check_raises(InvalidClosed, None, Closer, "abc", ("", "a", "b"))
        self.check_raises(InvalidClosed, None, Closer, "abc", ["ab", "abc", "b", "bc"])
        self.check_raises(InvalidThings, "cb", Closer, "cb", None)

    def test_all_stands_in_the_class_itself(self):
        self.assertEqual(Closer.__module__, "closerworks.closers")
        for name in ("read", "things", "closed", "around", "is_closed", "__str__", "__len__", "__eq__", "__init__"):
            self.assertIn(name, vars(Closer))


class Asked(Case):

    def test_properties_do_not_change(self):
        for closer in sample_closers():
            before = (closer.things, closer.closed, str(closer), len(closer))
            for name in ("things", "closed"):
                with self.assertRaises(AttributeError):
                    setattr(closer, name, "a")
                with self.assertRaises(AttributeError):
                    delattr(closer, name)
            for lot in every_lot(closer.things):
                closer.around(lot)
                closer.is_closed(lot)
            self.assertEqual((closer.things, closer.closed, str(closer), len(closer)), before)
            self.assertIs(type(closer.things), str)
            self.assertIs(type(closer.closed), tuple)

    def test_the_lot_around_a_lot_is_what_closed_lots_around_it_have_in_common(self):
        for closer in sample_closers():
            for lot in every_lot(closer.things):
                around = around_in(closer.things, closer.closed, lot)
                self.assertEqual(closer.around(lot), around)
                self.assertEqual(closer.around(lot=lot), around)
                self.assertIs(closer.is_closed(lot), lot in closer.closed)
                self.assertIs(closer.is_closed(lot=lot), around == lot)

    def test_what_a_closer_is(self):
        for closer in sample_closers():
            lots = every_lot(closer.things)
            for lot in lots:
                self.assertLessEqual(set(lot), set(closer.around(lot)))
                self.assertEqual(closer.around(closer.around(lot)), closer.around(lot))
            for one, other in itertools.product(lots[::5], lots):
                if set(one) <= set(other):
                    self.assertLessEqual(set(closer.around(one)), set(closer.around(other)))

    def test_only_the_whole_is_closed(self):
        for things in ("a", "z", "abc", SEVEN):
            closer = Closer(things, (things,))
            for lot in every_lot(things):
                self.assertEqual(closer.around(lot), things)
                self.assertIs(closer.is_closed(lot), lot == things)

    def test_wrong_lots(self):
        for closer in (FLAT, FOUR, Closer("a", ("a",)), Closer(SEVEN, (SEVEN,))):
            for action in (closer.around, closer.is_closed):
                self.check_call(action, ("lot",), (closer.things[0],), [(InvalidLot, wrong_lots(closer.things))])

    def test_text_and_number(self):
        self.assertEqual([str(Closer("a", ("a",))), len(Closer("a", ("a",)))], ["a a", 1])
        self.assertEqual([str(Closer("a", ("", "a"))), len(Closer("a", ("", "a")))], ["a - a", 2])
        self.assertEqual(str(Closer("bd", ("bd",))), "bd bd")
        self.assertEqual(str(Closer("bd", ("", "b", "bd", "d"))), "bd - b bd d")
        self.assertEqual([str(LINE), len(LINE)], ["abc - a ab abc b bc c", 7])
        self.assertEqual(str(FOUR), "abcd - a abcd acd ad b bcd bd cd d")
        for closer in sample_closers():
            self.assertEqual(str(closer), " ".join([closer.things, *(lot or "-" for lot in closer.closed)]))
            self.assertEqual(len(closer), len(closer.closed))

    def test_every_closer_is_true(self):
        self.assertTrue(all(bool(closer) is True for closer in sample_closers()))


class Equal(Case):

    def test_exactly_if_the_texts_are(self):
        closers = sample_closers()
        for one in closers:
            for other in closers:
                self.assertIs(one == other, str(one) == str(other))
                self.assertIs(one != other, str(one) != str(other))
        self.assertFalse(Closer("a", ("a",)) == Closer("b", ("b",)))
        self.assertFalse(Closer("ab", ("", "ab")) == Closer("ab", ("ab",)))
        self.assertTrue(Closer("ab", ("", "ab")) == Closer("ab", ("", "ab")))
        self.assertFalse(Closer("ab", ("", "ab")) != Closer("ab", ("", "ab")))

    def test_beside_values_of_other_classes(self):
        values = odd_words() + odd_tuples() + [value for value in odd_values() if not isinstance(value, Closer)]
        for closer in (FLAT, Closer("a", ("a",))):
            texts = [str(closer), closer.things, closer.closed, (closer.things, closer.closed), len(closer), (closer,)]
            for value in values + texts:
                self.assertIs(closer == value, False, value)
                self.assertIs(value == closer, False, value)
                self.assertIs(closer != value, True, value)
                self.assertIs(value != closer, True, value)
                self.assertNotIn(closer, [value])


class Read(Case):

    def test_what_comes_is_the_closer_with_the_text(self):
        for closer in sample_closers():
            for again in (Closer.read(str(closer)), Closer.read(text=str(closer)), closer.read(str(closer))):
                self.assertIs(type(again), Closer)
                self.assertEqual(again, closer)
                self.assertEqual((again.things, again.closed), (closer.things, closer.closed))
                for lot in every_lot(closer.things):
                    self.assertEqual(again.around(lot), closer.around(lot))

    def test_the_empty_lot(self):
        self.assertEqual(Closer.read("a - a").closed, ("", "a"))
        self.assertEqual(Closer.read("a a").closed, ("a",))

    def test_texts_near_a_text(self):
        signs = " -abcdz\nA?"
        right = {str(Closer(things, closed)) for things in ("a", "b", "ab", "abc", "abd", "bc")
                 for closed in all_systems_of(things)}
        for text in sorted(right)[::3] + [str(FLAT), str(LINE)]:
            near = [text[:at] + text[at + 1:] for at in range(len(text))]
            near += [text[:at] + sign + text[at:] for at in range(len(text) + 1) for sign in signs]
            near += [text[:at] + sign + text[at + 1:] for at in range(len(text)) for sign in signs]
            near += [text[:at] + text[at + 1] + text[at] + text[at + 2:] for at in range(len(text) - 1)]
            words = text.split(" ")
            near += [" ".join(words[:at] + words[at + 1:]) for at in range(len(words))]
            near += [" ".join(words[:at] + [words[at]] + words[at:]) for at in range(len(words))]
            near += [" ".join(words[:at] + [words[at + 1], words[at]] + words[at + 2:]) for at in range(len(words) - 1)]
            for other in near:
                if self.is_text(other):
                    self.assertEqual(str(Closer.read(other)), other)
                else:
                    self.check_raises(InvalidText, other, Closer.read, other)

    def is_text(self, text):
        things, *words = text.split(" ")
        lots = tuple("" if word == "-" else word for word in words)
        fine = things in every_lot("abcdz")[1:] and "" not in words
        return fine and set(lots) <= set(every_lot(things)) and lots in all_systems_of(things)

    def test_spaces_and_newlines(self):
        for text in ("ab  - ab", "ab - ab ", " ab - ab", "ab -  ab", "ab  ab", "ab ", "ab", "ab -", "ab - ab\n",
                     "\nab - ab", "ab\n- ab", "ab\t- ab", "ab - - ab", "ab -- ab", "ab ab -", "- ab", "- -", "-", "", " ",
                     "ab - ab ab", "ab - b ab", "ab - b a ab", "ba - ba", "aa aa", "ab - ab c", "abcdefgh abcdefgh",
                     "ab a ab b", "ab - a b", "ab , ab", "ab - AB", "(ab - ab)", "ab - ab\r", "  ", "a  a"):
            self.check_raises(InvalidText, text, Closer.read, text)

    def test_any_value(self):
        values = odd_values() + odd_tuples() + odd_words() + [(), "", "a", "ab", ("ab", "-", "ab"), b"a a", ["a a"]]
        self.check_call(Closer.read, ("text",), ("ab - ab",), [(InvalidText, [(value, value) for value in values])])


if __name__ == "__main__":
    unittest.main()
