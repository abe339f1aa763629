"""[6], [7] Lots and families."""

import unittest

from closerworks import lots as module
from closerworks.errors import InvalidFamily, InvalidLot, InvalidThings
from closerworks.lots import all_lots, common, either, greatest_ones, hitting, is_within, least_ones, meets, rest, unions
from tests.helpers import (Case, as_lot, every_family, every_lot, meets_by_subsets, some_families, wrong_any_lots,
                           wrong_families, wrong_lots, wrong_things)

SEVEN = "acegikz"
OF_FAMILIES = (least_ones, greatest_ones, meets, unions, hitting)


def least_told(family):
    return tuple(lot for lot in family if not any(set(other) < set(lot) for other in family))


def greatest_told(family):
    return tuple(lot for lot in family if not any(set(other) > set(lot) for other in family))


def unions_told(things, family):
    # What is in either one of some lots is the rest of what their rests have in common.
    rests = tuple(as_lot(set(things) - set(lot)) for lot in family)
    return tuple(sorted(as_lot(set(things) - set(lot)) for lot in meets_by_subsets(things, rests)))


def hitting_told(things, family):
    hits = [lot for lot in every_lot(things) if all(set(lot) & set(other) for other in family)]
    return least_told(hits)


class Examples(unittest.TestCase):

    def test_first_example(self):
        self.assertEqual(
            [common("abc", "bd"), either("ac", "b"), is_within("ac", "abcd"), rest("abcd", "bd"), all_lots("ab"), meets("abc", ("ab", "bc")), unions("abc", ("a", "bc"))],
            ['b', 'abc', True, 'ac', ('', 'a', 'ab', 'b'), ('ab', 'abc', 'b', 'bc'), ('', 'a', 'abc', 'bc')])

    def test_second_example(self):
        self.assertEqual(
            [least_ones("abc", ("a", "ab", "bc")), greatest_ones("abc", ("", "a", "ab", "bc")), hitting("abc", ("ab", "bc")), hitting("abc", ("ac", "b")), hitting("abc", ("", "a")), hitting("abc", ())],
            [('a', 'bc'), ('ab', 'bc'), ('ac', 'b'), ('ab', 'bc'), (), ('',)])


class TwoLots(Case):

    def test_as_sets_say_for_all_lots_of_four_things(self):
        for one in every_lot("adxz"):
            for other in every_lot("adxz"):
                self.assertEqual(common(one, other), as_lot(set(one) & set(other)))
                self.assertEqual(either(one, other), as_lot(set(one) | set(other)))
                self.assertIs(is_within(one, other), set(one) <= set(other))

    def test_lots_of_unlike_things(self):
        self.assertEqual(common("abc", "xyz"), "")
        self.assertEqual(either("xyz", "abc"), "abcxyz")
        self.assertEqual(either("acegikm", "bdfhjln"), "abcdefghijklmn")
        self.assertEqual(len(either("tuvwxyz", "abcdefg")), 14)
        self.assertEqual(common("abcdefg", "cdefghi"), "cdefg")
        self.assertEqual([is_within("abc", "xyz"), is_within("a", "xyz"), is_within("", "xyz")], [False, False, True])

    def test_the_empty_lot_and_seven_letters(self):
        self.assertEqual([common("", ""), either("", ""), is_within("", "")], ["", "", True])
        self.assertEqual([common("", SEVEN), either("", SEVEN), is_within("", SEVEN)], ["", SEVEN, True])
        self.assertEqual([common(SEVEN, ""), either(SEVEN, ""), is_within(SEVEN, "")], ["", SEVEN, False])
        self.assertEqual([common(SEVEN, SEVEN), either(SEVEN, SEVEN), is_within(SEVEN, SEVEN)], [SEVEN, SEVEN, True])
        self.assertEqual([is_within("acegik", SEVEN), is_within(SEVEN, "acegik")], [True, False])

    def test_calls_and_wrong_inputs(self):
        kinds = [(InvalidLot, wrong_any_lots())] * 2
        for action in (common, either, is_within):
            for args in (("abc", "bd"), ("", SEVEN), (SEVEN, "abcdefg")):
                self.check_call(action, ("one", "other"), args, kinds)

    def test_more_than_seven_letters_are_no_lot_even_if_ascending(self):
        for action in (common, either, is_within):
            self.check_raises(InvalidLot, "abcdefgh", action, "a", "abcdefgh")
            self.check_raises(InvalidLot, "abcdefghijklmn", action, "abcdefghijklmn", "a")


class RestAndAll(Case):

    def test_rest(self):
        for lot in every_lot("bdfh"):
            self.assertEqual(rest("bdfh", lot), as_lot(set("bdfh") - set(lot)))
        self.assertEqual([rest("a", ""), rest("a", "a"), rest(SEVEN, ""), rest(SEVEN, SEVEN)], ["a", "", SEVEN, ""])
        self.assertEqual(rest(SEVEN, "aez"), "cgik")

    def test_all_lots(self):
        for things in ("a", "z", "bz", "abc", SEVEN):
            self.assertEqual(all_lots(things), tuple(every_lot(things)))
        self.assertEqual(all_lots("q"), ("", "q"))
        self.assertEqual(all_lots("xyz"), ("", "x", "xy", "xyz", "xz", "y", "yz", "z"))
        self.assertEqual(len(all_lots(SEVEN)), 128)

    def test_calls_and_wrong_inputs(self):
        things = (InvalidThings, wrong_things())
        for args in (("abcd", "bd"), ("a", ""), (SEVEN, SEVEN)):
            self.check_call(rest, ("things", "lot"), args, [things, (InvalidLot, wrong_lots(args[0]))])
        for some in ("a", "abc", SEVEN):
            self.check_call(all_lots, ("things",), (some,), [things])


class Families(Case):

    def check_all(self, things, family):
        self.assertEqual(least_ones(things, family), least_told(family), family)
        self.assertEqual(greatest_ones(things, family), greatest_told(family), family)
        self.assertEqual(hitting(things, family), hitting_told(things, family), family)

    def test_as_sets_say_for_all_families_of_up_to_three_things(self):
        for things in ("a", "z", "ab", "by", "abc", "kpx"):
            for family in every_family(things):
                self.check_all(things, family)
                self.assertEqual(meets(things, family), meets_by_subsets(things, family), family)
                self.assertEqual(unions(things, family), unions_told(things, family), family)

    def test_as_sets_say_for_some_families_of_seven_things(self):
        for family in some_families(SEVEN, 30, 1):
            self.check_all(SEVEN, family)
            self.assertEqual(meets(SEVEN, family), meets_by_subsets(SEVEN, family), family)
            self.assertEqual(unions(SEVEN, family), unions_told(SEVEN, family), family)

    def test_hitting_twice_gives_the_least_ones(self):
        for things in ("a", "by", "abc"):
            for family in every_family(things):
                self.assertEqual(hitting(things, hitting(things, family)), least_ones(things, family), family)
        for family in some_families(SEVEN, 60, 2):
            self.assertEqual(hitting(SEVEN, hitting(SEVEN, family)), least_ones(SEVEN, family), family)

    def test_the_empty_family(self):
        for things in ("a", "abc", SEVEN):
            self.assertEqual([action(things, ()) for action in OF_FAMILIES], [(), (), (things,), ("",), ("",)])

    def test_a_family_with_the_empty_lot(self):
        for things in ("a", "abc", SEVEN):
            self.assertEqual([action(things, ("",)) for action in OF_FAMILIES],
                             [("",), ("",), ("", things), ("",), ()])
            self.assertEqual([action(things, ("", things)) for action in OF_FAMILIES],
                             [("",), (things,), ("", things), ("", things), ()])

    def test_the_whole_alone(self):
        for things in ("a", "abc", SEVEN):
            self.assertEqual([action(things, (things,)) for action in OF_FAMILIES],
                             [(things,), (things,), (things,), ("", things), tuple(things)])

    def test_all_lots_of_seven_things(self):
        lots = tuple(every_lot(SEVEN))
        self.assertEqual([action(SEVEN, lots) for action in OF_FAMILIES], [("",), (SEVEN,), lots, lots, ()])
        self.assertEqual(hitting(SEVEN, tuple(SEVEN)), (SEVEN,))
        self.assertEqual(hitting(SEVEN, lots[1:]), (SEVEN,))
        self.assertEqual(meets(SEVEN, tuple(lot for lot in lots if len(lot) == 6)), lots)
        self.assertEqual(unions(SEVEN, tuple(SEVEN)), lots)

    def test_calls_and_wrong_inputs(self):
        for action in OF_FAMILIES:
            for args in (("abc", ("a", "bc")), ("a", ("", "a")), (SEVEN, ("ac", "acz", "gik", "z"))):
                kinds = [(InvalidThings, wrong_things()), (InvalidFamily, wrong_families(args[0]))]
                self.check_call(action, ("things", "family"), args, kinds)

    def test_the_first_wrong_element_is_told(self):
        for action in OF_FAMILIES:
            self.check_raises(InvalidFamily, None, action, "abc", ["a", "b"])
            self.check_raises(InvalidFamily, 0, action, "abc", ("d", "a", True))
            self.check_raises(InvalidFamily, 1, action, "abc", ("b", "a", "c"))
            self.check_raises(InvalidFamily, 2, action, "abc", ("", "a", "a", "c"))
            self.check_raises(InvalidFamily, 3, action, "abc", ("", "a", "ab", None))
            self.check_raises(InvalidFamily, 1, action, "abc", ("c", ""))


class Module(unittest.TestCase):

    def test_all_is_defined_here(self):
        for name in ("common", "either", "is_within", "rest", "all_lots", "least_ones", "greatest_ones", "meets",
                     "unions", "hitting"):
            self.assertEqual(getattr(module, name).__module__, "closerworks.lots")


if __name__ == "__main__":
    unittest.main()
