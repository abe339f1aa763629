"""[2], [26] Riddles: what fits, what is sure, what is open, and which answers are wrong."""

import itertools
import random
import unittest

from closerworks import riddles as module
from closerworks.closers import Closer
from closerworks.errors import (InvalidAnswers, InvalidLot, InvalidNumber, InvalidThings, NoFit, NotACloser, NotARiddle,
                                OtherThings, TooMany, UnknownThing)
from closerworks.riddles import Riddle, count_fits, finest_fit, fits, some_fit, still_open, sure, wrong_answers
from closerworks.telling import by_rules
from tests.helpers import (Case, around_in, closed_by_book, closers_of, every_lot, example_closers, odd_tuples,
                           odd_values, odd_words, sample_closers, systems_of_four, wrong_answers_told, wrong_asked,
                           wrong_closers, wrong_lots, wrong_riddles, wrong_things, wrong_truths)

SEVEN = "acegikz"
FLAT, LINE, FOUR = example_closers()
DIM = Riddle("abc", (("ac", "b", True), ("a", "b", False)))
ODD = DIM.answered("", "b", True)
MARKED = (finest_fit, still_open)


def pairs_of(things):
    """All pairs of a lot and a thing that is not in it, ascending."""
    return [(lot, thing) for lot in every_lot(things) for thing in things if thing not in lot]


def some_riddles(things, many, seed, most=12, truth=0.5):
    """Some riddles, the same ones each time."""
    chance = random.Random(seed)
    for _ in range(many):
        asked = [chance.choice(pairs_of(things)) for _ in range(chance.randint(0, most))]
        yield Riddle(things, tuple((lot, thing, chance.random() < truth) for lot, thing in asked))


def answers_of(closer, many, seed):
    """Some right answers of a closer, the same ones each time."""
    chance = random.Random(seed)
    asked = [chance.choice(pairs_of(closer.things)) for _ in range(many)]
    return tuple((lot, thing, thing in closer.around(lot)) for lot, thing in asked)


def fitting(riddle):
    """The closers of three or four things that fit, by looking at all closers, as families."""
    systems = systems_of_four() if riddle.things == "abcd" else [closer.closed for closer in closers_of(riddle.things)]
    return [closed for closed in systems
            if all((thing in around_in(riddle.things, closed, lot)) is is_in for lot, thing, is_in in riddle.answers)]


def few_riddles():
    """Riddles of one, two, three and four things: all of up to two answers for the first ones, and some."""
    for things in ("a", "bz"):
        answers = [pair + (is_in,) for pair in pairs_of(things) for is_in in (True, False)]
        for many in range(3):
            for some in itertools.product(answers, repeat=many):
                yield Riddle(things, some)
    yield from some_riddles("abc", 60, 1, most=5)
    yield from some_riddles("abc", 20, 2, truth=0.7)
    yield from some_riddles("abcd", 12, 3, most=4, truth=0.6)


def told(riddle):
    return riddle.things, riddle.answers


def check_told(riddle):
    return repr(told(riddle))


class Examples(unittest.TestCase):

    def test_examples(self):
        flat, line = FLAT, LINE
        dim = Riddle("abc", (("ac", "b", True), ("a", "b", False)))
        self.assertEqual(
            [fits(dim, line), fits(dim, flat), sure(dim, "ac", "b"), sure(dim, "", "b"), sure(dim, "a", "c"), finest_fit(dim) == line, count_fits(dim), some_fit(dim), wrong_answers(dim)],
            [True, True, 'in', 'out', 'out', True, 16, True, ((),)])
        odd = dim.answered("", "b", True)
        self.assertEqual(
            [some_fit(odd), wrong_answers(odd), still_open(Riddle("ab", (("a", "b", True),)))],
            [False, ((1,), (2,)), (('', 'a'), ('', 'b'), ('b', 'a'))])


class Riddles(Case):

    def test_what_a_riddle_keeps(self):
        many = (("", "z", True),) * 12
        for things, answers in (("abc", (("ac", "b", True), ("a", "b", False))), ("a", ()), ("a", (("", "a", False),)),
                                (SEVEN, (("z", "a", False), ("", "c", True), ("z", "a", False), ("z", "a", True))),
                                (SEVEN, many)):
            for riddle in (Riddle(things, answers), Riddle(things=things, answers=answers),
                           Riddle(answers=answers, things=things), Riddle(things, answers=answers)):
                self.assertIs(type(riddle), Riddle)
                self.assertEqual(told(riddle), (things, answers))
                self.assertEqual([type(riddle.things), type(riddle.answers)], [str, tuple])
                self.assertIs(bool(riddle), True)

    def test_answers_in_any_order_and_alike(self):
        answers = (("b", "a", False), ("", "c", True), ("b", "a", False), ("ab", "c", True))
        for some in itertools.permutations(answers):
            self.assertEqual(Riddle("abc", some).answers, some)

    def test_a_riddle_never_changes(self):
        for name in ("things", "answers"):
            with self.assertRaises(AttributeError):
                setattr(DIM, name, DIM.answers)
        before = check_told(DIM)
        for action in (some_fit, finest_fit, count_fits, still_open, wrong_answers):
            action(DIM)
        self.assertEqual(check_told(DIM), before)

    def test_twelve_and_thirteen_answers(self):
        right = ("a", "b", False)
        self.assertEqual(len(Riddle("ab", (right,) * 12).answers), 12)
        for many in (13, 14, 50):
            self.check_raises(InvalidAnswers, 12, Riddle, "ab", (right,) * many)
        self.check_raises(InvalidAnswers, 11, Riddle, "ab", (right,) * 11 + (("a", "b", 0),) * 2)

    def test_true_and_false_alone(self):
        for value in (0, 1, None, "True", (True,), ""):
            self.check_raises(InvalidAnswers, 1, Riddle, "ab", (("a", "b", True), ("a", "b", value)))
            self.check_raises(InvalidNumber, value, Riddle("ab", ()).answered, "a", "b", value)

    def test_equal_exactly_if_both_are(self):
        riddles = [DIM, Riddle("abc", DIM.answers[::-1]), Riddle("abc", DIM.answers * 2), Riddle("abc", ()),
                   Riddle("abcd", DIM.answers), Riddle("ab", ()), Riddle("ab", (("a", "b", True),)),
                   Riddle("ab", (("a", "b", False),))]
        for one, other in itertools.product(riddles, repeat=2):
            same = told(one) == told(other)
            again = Riddle("".join(list(other.things)), tuple(list(other.answers)))
            self.assertEqual([one == other, one != other, one == again, again != one], [same, not same, same, not same])

    def test_no_riddle_is_equal_to_a_value_of_another_class(self):
        values = odd_values() + odd_words() + odd_tuples() + ["", "abc", (), told(DIM), DIM.answers, FLAT]
        for riddle in (DIM, Riddle("a", ())):
            for value in values:
                if not isinstance(value, Riddle):
                    self.assertEqual([riddle == value, value == riddle, riddle != value, value != riddle],
                                     [False, False, True, True])

    def test_calls_and_wrong_inputs(self):
        for name in ("__init__", "__eq__", "things", "answers", "answered"):
            self.assertIn(name, vars(Riddle))
        for things, answers in (("abc", DIM.answers), ("a", ()), (SEVEN, (("z", "a", False),))):
            kinds = [(InvalidThings, wrong_things()), (InvalidAnswers, wrong_answers_told(things))]
            self.check_call(Riddle, ("things", "answers"), (things, answers), kinds)


class Answered(Case):

    def test_one_answer_more_behind_the_others(self):
        for riddle in (DIM, Riddle("abc", ()), Riddle("abc", DIM.answers * 5)):
            before = check_told(riddle)
            for (lot, thing), is_in in itertools.product(pairs_of("abc"), (True, False)):
                found = riddle.answered(lot, thing, is_in)
                self.assertIs(type(found), Riddle)
                self.assertEqual(told(found), ("abc", riddle.answers + ((lot, thing, is_in),)))
                self.assertIs(found.answers[-1][2], is_in)
                self.assertEqual(riddle.answered(is_in=is_in, lot=lot, thing=thing), found)
                self.assertEqual(check_told(riddle), before)

    def test_the_twelfth_and_the_thirteenth_answer(self):
        eleven = Riddle("abc", (("a", "b", False),) * 11)
        twelve = eleven.answered("", "c", True)
        self.assertEqual(len(twelve.answers), 12)
        before = check_told(twelve)
        self.check_raises(TooMany, 13, twelve.answered, "", "c", True)
        self.check_raises(TooMany, 13, twelve.answered, "a", "b", False)
        # All that is wrong with the answer comes ahead.
        self.check_raises(InvalidLot, "d", twelve.answered, "d", "c", True)
        self.check_raises(UnknownThing, "d", twelve.answered, "", "d", True)
        self.check_raises(UnknownThing, "a", twelve.answered, "a", "a", True)
        self.check_raises(InvalidNumber, 1, twelve.answered, "", "c", 1)
        self.assertEqual(check_told(twelve), before)

    def test_calls_and_wrong_inputs(self):
        for riddle, args in ((DIM, ("a", "c", True)), (Riddle("a", ()), ("", "a", False)),
                             (Riddle(SEVEN, ()), ("cz", "k", False))):
            before = check_told(riddle)
            kinds = [(InvalidLot, wrong_lots(riddle.things)), (UnknownThing, wrong_asked(riddle.things, args[0])),
                     (InvalidNumber, wrong_truths())]
            self.check_call(riddle.answered, ("lot", "thing", "is_in"), args, kinds)
            self.assertEqual(check_told(riddle), before)


class Fits(Case):

    def test_which_closers_fit(self):
        for riddle in few_riddles():
            if len(riddle.things) > 3:
                continue
            before = check_told(riddle)
            right = fitting(riddle)
            for closer in closers_of(riddle.things):
                self.assertIs(fits(riddle, closer), closer.closed in right)
            self.assertIs(some_fit(riddle), bool(right))
            self.assertEqual((type(count_fits(riddle)), count_fits(riddle)), (int, len(right)))
            self.assertEqual(check_told(riddle), before)

    def test_all_right_answers_fit(self):
        for closer in sample_closers():
            for many in (0, 1, 7, 12):
                answers = answers_of(closer, many, 3) if pairs_of(closer.things) else ()
                riddle = Riddle(closer.things, answers)
                self.assertEqual([fits(riddle, closer), some_fit(riddle)], [True, True])
                for at, (lot, thing, is_in) in enumerate(answers):
                    turned = answers[:at] + ((lot, thing, not is_in),) + answers[at + 1:]
                    self.assertIs(fits(Riddle(closer.things, turned), closer), False)

    def test_what_says_the_same(self):
        for riddle in list(few_riddles()) + list(some_riddles(SEVEN, 30, 9)):
            book = tuple((lot, thing) for lot, thing, is_in in riddle.answers if is_in)
            closed = closed_by_book(riddle.things, book)
            kept = all(thing not in around_in(riddle.things, closed, lot)
                       for lot, thing, is_in in riddle.answers if not is_in)
            self.assertIs(some_fit(riddle), kept)
            if kept:
                self.assertEqual(finest_fit(riddle).closed, closed)

    def test_other_things(self):
        for riddle, closer in ((DIM, FOUR), (DIM, Closer("ab", ("ab",))), (Riddle("a", ()), Closer("b", ("b",)))):
            self.check_raises(OtherThings, closer.things, fits, riddle, closer)
            self.check_raises(OtherThings, closer.things, fits, closer=closer, riddle=riddle)

    def test_more_than_three_things(self):
        for riddle in (Riddle("abcd", ()), Riddle(SEVEN, (("a", "c", True), ("a", "c", False))), Riddle("abcde", ())):
            self.check_raises(TooMany, len(riddle.things), count_fits, riddle)
        self.assertEqual([count_fits(Riddle("z", ())), count_fits(Riddle("bz", ())), count_fits(Riddle("abc", ()))], [2, 7, 61])
        self.assertEqual(count_fits(ODD), 0)

    def test_calls_and_wrong_inputs(self):
        for riddle, closer in ((DIM, LINE), (Riddle("a", ()), Closer("a", ("a",))), (Riddle(SEVEN, ()), Closer(SEVEN, (SEVEN,)))):
            kinds = [(NotARiddle, wrong_riddles()), (NotACloser, wrong_closers())]
            self.check_call(fits, ("riddle", "closer"), (riddle, closer), kinds)
        for action in (some_fit, finest_fit, still_open, wrong_answers, count_fits):
            for riddle in (DIM, Riddle("a", ()), Riddle("bz", (("z", "b", False),))):
                self.check_call(action, ("riddle",), (riddle,), [(NotARiddle, wrong_riddles())])


class Sure(Case):

    def test_what_is_so_in_all_closers_that_fit(self):
        seen = set()
        for riddle in few_riddles():
            right = fitting(riddle)
            if not right:
                continue
            before = check_told(riddle)
            found = finest_fit(riddle)
            self.assertIs(type(found), Closer)
            self.assertIn(found.closed, right)
            self.assertTrue(all(set(closed) <= set(found.closed) for closed in right))
            opened = []
            for lot, thing in pairs_of(riddle.things):
                ways = {thing in around_in(riddle.things, closed, lot) for closed in right}
                word = "open" if len(ways) == 2 else "in" if True in ways else "out"
                self.assertEqual(sure(riddle, lot, thing), word, (before, lot, thing))
                opened += [(lot, thing)] if word == "open" else []
                seen.add(word)
            self.assertEqual((type(still_open(riddle)), still_open(riddle)), (tuple, tuple(opened)))
            self.assertEqual(check_told(riddle), before)
        self.assertEqual(seen, {"in", "out", "open"})

    def test_seven_things(self):
        for riddle in list(some_riddles(SEVEN, 8, 21, truth=0.6)) + [Riddle(SEVEN, ())]:
            if not some_fit(riddle):
                continue
            book = tuple((lot, thing) for lot, thing, is_in in riddle.answers if is_in)
            opened = []
            for lot, thing in pairs_of(SEVEN)[::9]:
                more = closed_by_book(SEVEN, book + ((lot, thing),))
                barred = any(other in around_in(SEVEN, more, known) for known, other, is_in in riddle.answers if not is_in)
                inside = thing in around_in(SEVEN, closed_by_book(SEVEN, book), lot)
                word = "in" if inside else "out" if barred else "open"
                self.assertEqual(sure(riddle, lot, thing), word)
                opened += [(lot, thing)] if word == "open" else []
            self.assertEqual([pair for pair in pairs_of(SEVEN)[::9] if pair in still_open(riddle)], opened)

    def test_edges(self):
        self.assertEqual(still_open(Riddle("a", ())), (("", "a"),))
        self.assertEqual(still_open(Riddle("a", (("", "a", True),))), ())
        self.assertEqual([sure(Riddle("a", (("", "a", False),)), "", "a"), finest_fit(Riddle("a", ())).closed], ["out", ("", "a")])
        self.assertEqual(still_open(Riddle(SEVEN, ())), tuple(pairs_of(SEVEN)))
        self.assertEqual(finest_fit(Riddle(SEVEN, ())), Closer(SEVEN, tuple(every_lot(SEVEN))))

    def test_answers_that_no_closer_fits(self):
        wrongs = [ODD, Riddle("a", (("", "a", True), ("", "a", False))),
                  Riddle(SEVEN, (("a", "c", True), ("c", "e", True), ("az", "e", False)))]
        for riddle in wrongs:
            before = check_told(riddle)
            for action in MARKED:
                with self.assertRaises(NoFit) as caught:
                    action(riddle)
                self.assertEqual((type(caught.exception), vars(caught.exception)), (NoFit, {}))
            for lot, thing in pairs_of(riddle.things)[:20]:
                with self.assertRaises(NoFit):
                    sure(riddle, lot, thing)
            # It is told behind all others.
            self.check_raises(InvalidLot, "?", sure, riddle, "?", "?")
            self.check_raises(UnknownThing, "?", sure, riddle, "", "?")
            self.check_raises(UnknownThing, riddle.things[0], sure, riddle, riddle.things, riddle.things[0])
            self.assertEqual(check_told(riddle), before)
            self.assertIs(some_fit(riddle), False)

    def test_things_in_the_lot(self):
        for lot in every_lot("abc"):
            for thing in lot:
                self.check_raises(UnknownThing, thing, sure, DIM, lot, thing)
                self.check_raises(UnknownThing, thing, DIM.answered, lot, thing, True)

    def test_calls_and_wrong_inputs(self):
        for args in ((DIM, "a", "c"), (Riddle("a", ()), "", "a"), (Riddle(SEVEN, ()), "ck", "z")):
            things = args[0].things
            kinds = [(NotARiddle, wrong_riddles()), (InvalidLot, wrong_lots(things)),
                     (UnknownThing, wrong_asked(things, args[1]))]
            self.check_call(sure, ("riddle", "lot", "thing"), args, kinds)


class WrongAnswers(Case):

    def told_wrong(self, riddle):
        """The least tuples of indexes without which some closer fits, by looking at all tuples."""
        answers = riddle.answers
        found = []
        for size in range(len(answers) + 1):
            for some in itertools.combinations(range(len(answers)), size):
                left = tuple(answer for at, answer in enumerate(answers) if at not in some)
                if not any(set(other) <= set(some) for other in found) and some_fit(Riddle(riddle.things, left)):
                    found.append(some)
        return tuple(found)

    def test_all_tuples(self):
        seen = []
        samples = list(few_riddles()) + list(some_riddles("abc", 25, 31, most=9))
        samples += list(some_riddles("bdfhj", 15, 32, most=9, truth=0.8))
        for riddle in samples:
            before = check_told(riddle)
            found = wrong_answers(riddle)
            self.assertEqual(found, self.told_wrong(riddle), before)
            self.assertIs(type(found), tuple)
            self.assertTrue(all(type(some) is tuple for some in found))
            self.assertIs(found == ((),), some_fit(riddle))
            seen.append(len(found))
            self.assertEqual(check_told(riddle), before)
        self.assertGreater(max(seen), 4)

    def test_twelve_answers(self):
        for riddle in list(some_riddles("abc", 40, 41))[:3] + [Riddle("a", (("", "a", True), ("", "a", False)) * 6)]:
            self.assertEqual(wrong_answers(riddle), self.told_wrong(riddle))
        self.assertEqual(wrong_answers(Riddle("a", (("", "a", True),) * 11 + (("", "a", False),))), ((11,), tuple(range(11))))
        self.assertEqual(wrong_answers(Riddle("a", (("", "a", True),) * 12)), ((),))

    def test_by_their_lengths_then_as_tuples(self):
        riddle = Riddle("abc", (("", "a", True), ("a", "b", True), ("b", "c", True), ("", "c", False), ("", "b", False)))
        self.assertEqual(wrong_answers(riddle), ((0,), (1,), (2, 4), (3, 4)))
        self.assertEqual(wrong_answers(ODD), ((1,), (2,)))
        self.assertEqual(wrong_answers(Riddle("abc", ())), ((),))


class Module(unittest.TestCase):

    def test_all_is_defined_here(self):
        for name in ("Riddle", "fits", "some_fit", "finest_fit", "sure", "count_fits", "still_open", "wrong_answers"):
            self.assertEqual(getattr(module, name).__module__, "closerworks.riddles")

    def test_the_closer_of_the_book_of_a_riddle(self):
        self.assertEqual(finest_fit(DIM), by_rules("abc", (("ac", "b"),)))


if __name__ == "__main__":
    unittest.main()
