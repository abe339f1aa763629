"""[2], [3] Consoles: commands and their answers."""

import itertools
import random
import unittest

from closerworks import console as module
from closerworks.benches import Bench
from closerworks.books import reasons, stem, stops
from closerworks.closers import Closer
from closerworks.console import Console
from closerworks.convex import ends
from closerworks.errors import (Barred, InvalidCommand, InvalidLot, InvalidRule, NotACloser, NothingToUndo, Swapped,
                                TooFew, UnknownThing)
from closerworks.exchange import bases, rank, rings
from closerworks.keys import keys, seeds, tops
from closerworks.orders import count_chains, roots
from closerworks.peels import count_peels, fewest_rows
from closerworks.rules import holds
from closerworks.telling import by_rules, corners
from closerworks.topologies import inner, leads, pieces, rim, words
from tests import told
from tests.helpers import (Case, bars_told, closers_of, every_lot, example_closers, odd_tuples, odd_values, odd_words,
                           sample_closers, swaps_told, wrong_closers)

SEVEN = "acegikz"
FLAT, LINE, FOUR = example_closers()
KINDS = ("modular", "distributive", "topology", "convex", "exchange")
LOT_TOLD = {"ends": ends, "inner": inner, "rim": rim}
LOTS_TOLD = {"corners": corners, "keys": keys, "tops": tops, "stops": stops, "roots": roots, "pieces": pieces, "rings": rings}
LOTS_BEHIND = {"seeds": seeds, "bases": bases, "words": words}
# How many lots stand behind each word; 9 for a single letter.
FORMS = {"add": 2, "close": 1, "keep": 1, "shut": 1, "undo": 0, "around": 1, "ends": 1, "inner": 1, "rim": 1, "closed": 0,
         "corners": 0, "keys": 0, "tops": 0, "stops": 0, "roots": 0, "pieces": 0, "rings": 0, "seeds": 1, "bases": 1, "words": 1,
         "reasons": 9, "stem": 0, "leads": 0, "holds": 2, "modular": 0, "distributive": 0, "topology": 0, "convex": 0,
         "exchange": 0, "chains": 0, "peels": 0, "rows": 0, "rank": 1}


def some_samples():
    return sample_closers() + closers_of("abc")[::4]


def dashed(lot):
    return lot or "-"


def lots_line(family):
    return " ".join(dashed(lot) for lot in family) or "none"


def stand(console):
    return str(console.bench.now), console.bench.changes


def command_with(word):
    """A command of this word."""
    return " ".join([word] + (["a"] if FORMS[word] == 9 else ["a"] * FORMS[word]))


class Examples(Case):

    def test_examples(self):
        four = FOUR
        console = Console(four)
        self.assertEqual(
            [console.say("around ab"), console.say("keys"), console.say("stem"), console.say("ends abcd"), console.say("convex"), console.say("add d c"), console.say("closed"), console.say("rim a"), console.say("undo"), console.say("reasons d"), console.say("chains")],
            ['abcd', 'ab', 'ab>abcd c>cd', 'ab', 'yes', 'ok', '- a abcd acd b bcd cd', '-', 'ok', 'ab c', '6'])
        with self.assertRaises(InvalidRule) as caught:
            console.say("holds ab z")
        self.assertEqual((type(caught.exception), caught.exception.given), (InvalidRule, ('ab', 'z')))


class ConsoleCase(Case):

    def check_wrong(self, console, kind, has, command):
        """The command raises this very error, and nothing changes."""
        before = stand(console)
        with self.assertRaises(kind) as caught:
            console.say(command)
        self.assertIs(type(caught.exception), kind)
        self.assertEqual(vars(caught.exception), has)
        self.assertEqual(stand(console), before)


class Made(ConsoleCase):

    def test_made(self):
        for closer in some_samples():
            for console in (Console(closer), Console(closer=closer)):
                self.assertIs(type(console), Console)
                self.assertIs(type(console.bench), Bench)
                self.assertIs(console.bench, console.bench)
                self.assertEqual(stand(console), (str(closer), 0))
                self.assertIs(bool(console), True)

    def test_wrong_inputs(self):
        for value, _ in wrong_closers():
            self.check_raises(NotACloser, value, Console, value)
            self.check_raises(NotACloser, value, Console, closer=value)

    def test_the_bench_is_not_set(self):
        console = Console(LINE)
        with self.assertRaises(AttributeError):
            console.bench = Bench(FLAT)
        self.assertEqual(stand(console), (str(LINE), 0))

    def test_a_console_is_equal_to_no_other_value(self):
        console = Console(LINE)
        for other in [LINE, console.bench, str(LINE)] + odd_values() + odd_tuples() + odd_words():
            self.assertEqual([console == other, other == console, console != other, other != console], [False, False, True, True])

    def test_all_stands_in_the_class_itself(self):
        self.assertEqual([Console.__module__, module.Console], ["closerworks.console", Console])
        for name in ("__init__", "bench", "say"):
            self.assertIn(name, vars(Console))

    def test_all_words_are_known(self):
        console = Console(by_rules("abc", ()))
        for word in FORMS:
            if word != "undo":
                self.assertIs(type(console.say(command_with(word))), str)
                if word in ("add", "close", "keep", "shut"):
                    console.bench.undo()


class Asked(ConsoleCase):

    def test_commands_of_one_word(self):
        for closer in some_samples():
            console = Console(closer)
            before = stand(console)
            self.assertEqual(console.say("closed"), lots_line(closer.closed))
            for word, action in LOTS_TOLD.items():
                self.assertEqual(console.say(word), lots_line(action(closer)), (before, word))
            rules = " ".join(dashed(one) + ">" + dashed(other) for one, other in stem(closer))
            self.assertEqual(console.say("stem"), rules or "none")
            self.assertEqual(console.say("leads"), " ".join(leads(closer)) or "none")
            if len(closer) < 20:
                for word in KINDS:
                    so = told.is_kind((closer.things, closer.closed), word)
                    self.assertEqual(console.say(word), "yes" if so else "no")
            self.assertEqual(console.say("chains"), str(count_chains(closer)))
            self.assertEqual(console.say(command="chains"), str(count_chains(closer)))
            self.assertEqual(stand(console), before)

    def test_commands_with_lots(self):
        for closer in some_samples():
            console = Console(closer)
            before = stand(console)
            lots = every_lot(closer.things)[::1 if len(closer.things) < 7 else 17] + [closer.things]
            for lot in lots:
                behind = " " + dashed(lot)
                self.assertEqual(console.say("around" + behind), dashed(closer.around(lot)))
                for word, action in LOT_TOLD.items():
                    self.assertEqual(console.say(word + behind), dashed(action(closer, lot)), (before, word, lot))
                for word, action in LOTS_BEHIND.items():
                    self.assertEqual(console.say(word + behind), lots_line(action(closer, lot)), (before, word, lot))
                for other in lots[::3] + ["", closer.things]:
                    right = "yes" if holds(closer, (lot, other)) else "no"
                    self.assertEqual(console.say("holds" + behind + " " + dashed(other)), right)
            for thing in closer.things:
                self.assertEqual(console.say("reasons " + thing), lots_line(reasons(closer, thing)))
            self.assertEqual(stand(console), before)

    def test_peels_rows_and_rank(self):
        seen = set()
        for closer in some_samples():
            console = Console(closer)
            before = stand(console)
            convex = closer.is_closed("") and not swaps_told(closer)
            for word, action in (("peels", count_peels), ("rows", fewest_rows)):
                if convex:
                    self.assertEqual(console.say(word), str(action(closer)))
                else:
                    with self.assertRaises(Swapped) as caught:
                        console.say(word)
                    self.assertIn(caught.exception.given, swaps_told(closer) if closer.is_closed("") else [()])
            for lot in ("", closer.things):
                if bars_told(closer):
                    with self.assertRaises(Barred) as caught:
                        console.say("rank " + dashed(lot))
                    self.assertIn(caught.exception.given, bars_told(closer))
                else:
                    self.assertEqual(console.say("rank " + dashed(lot)), str(rank(closer, lot)))
            seen.add((convex, bool(bars_told(closer))))
            self.assertEqual(stand(console), before)
        self.assertEqual(len(seen), 4)

    def test_edges(self):
        one = Console(Closer("a", ("a",)))
        self.assertEqual([one.say(command) for command in ("closed", "corners", "keys", "tops", "stops", "roots", "rings", "stem", "leads")],
                         ["a", "none", "-", "none", "-", "none", "a", "->a", "none"])
        self.assertEqual([one.say(command) for command in ("around -", "around a", "ends a", "inner -", "rim a", "seeds a", "bases a",
                                                           "words -", "words a", "reasons a", "holds - a", "rank a", "chains")],
                         ["a", "a", "-", "-", "a", "-", "-", "- a", "- a", "-", "yes", "0", "1"])
        free = Console(Closer("a", ("", "a")))
        self.assertEqual([free.say(command) for command in ("closed", "stem", "reasons a", "peels", "rows", "rank a", "pieces", "tops")],
                         ["- a", "none", "none", "1", "1", "1", "a", "-"])
        everything = Console(Closer(SEVEN, tuple(every_lot(SEVEN))))
        self.assertEqual([everything.say("peels"), everything.say("rows"), everything.say("chains"), everything.say("rank " + SEVEN)],
                         ["5040", "7", "5040", "7"])
        self.assertEqual(everything.say("closed"), lots_line(every_lot(SEVEN)))


class Done(ConsoleCase):

    def test_each_deed(self):
        for closer in (FOUR, LINE, FLAT, Closer("a", ("", "a")), Closer(SEVEN, ("", SEVEN))):
            lots = every_lot(closer.things)[::1 if len(closer.things) < 7 else 9]
            commands = [("close", lot) for lot in lots] + [("keep", lot) for lot in lots if lot]
            commands += [("shut", lot) for lot in lots if lot != closer.things]
            commands += [("add", one, other) for one in lots[::2] for other in lots[::3]]
            console, bench = Console(closer), Bench(closer)
            for word, *some in commands:
                self.assertEqual(console.say(" ".join([word] + [dashed(lot) for lot in some])), "ok")
                getattr(bench, word)(*([tuple(some)] if word == "add" else some))
                self.assertEqual(stand(console), (str(bench.now), bench.changes))
                self.assertEqual(console.say("undo"), "ok")
                bench.undo()
                self.assertEqual(stand(console), (str(closer), 0))

    def test_long_rows_of_commands(self):
        for seed in range(6):
            chance = random.Random(seed)
            console, bench = Console(FOUR), Bench(FOUR)
            for _ in range(60):
                lots = every_lot(bench.now.things)
                word = chance.choice(["add", "close", "close", "keep", "shut", "undo", "undo"])
                some = [chance.choice(lots) for _ in range({"add": 2, "undo": 0}.get(word, 1))]
                try:
                    getattr(bench, word)(*([tuple(some)] if word == "add" else some))
                    error = None
                except (TooFew, NothingToUndo) as caught:
                    error = caught
                command = " ".join([word] + [dashed(lot) for lot in some])
                if error is None:
                    self.assertEqual(console.say(command), "ok")
                else:
                    self.check_wrong(console, type(error), vars(error), command)
                self.assertEqual(stand(console), (str(bench.now), bench.changes))
                self.assertEqual(console.say("closed"), lots_line(bench.now.closed))

    def test_what_is_done_at_the_bench_itself(self):
        console = Console(FOUR)
        console.bench.keep("ab")
        self.assertEqual([console.say("closed"), console.say("undo"), console.say("keys")], ["- a ab b", "ok", "ab"])
        with console.bench.trial():
            console.say("close ab")
        self.assertEqual([console.bench.changes, console.say("around ab")], [1, "ab"])
        with self.assertRaises(TooFew):
            with console.bench.trial():
                console.say("shut a")
                console.say("keep -")
        self.assertEqual([console.bench.changes, console.bench.now.things], [1, "abcd"])

    def test_consoles_do_not_share_what_they_do(self):
        one, other = Console(LINE), Console(LINE)
        one.say("close ac")
        self.assertEqual([other.say("around ac"), other.bench.changes], ["abc", 0])


class Wrong(ConsoleCase):

    def test_errors_of_what_is_called(self):
        console = Console(FOUR)
        console.say("close ab")
        for word in ("close", "keep", "shut", "around", "ends", "inner", "rim", "seeds", "bases", "words", "rank"):
            for lot in ("z", "ba", "aa", "abz", "abcdefg", "zyxwvut", "aaaaaaa", "e"):
                self.check_wrong(console, InvalidLot, {"given": lot}, word + " " + lot)
        for word in ("add", "holds"):
            for one, other in (("ab", "z"), ("z", "ab"), ("ba", "a"), ("a", "aa"), ("zyxwvut", "e"), ("-", "z"), ("z", "-"), ("ba", "ba")):
                rule = ("" if one == "-" else one, "" if other == "-" else other)
                self.check_wrong(console, InvalidRule, {"given": rule}, " ".join([word, one, other]))
        for thing in ("e", "z"):
            self.check_wrong(console, UnknownThing, {"given": thing}, "reasons " + thing)
        self.check_wrong(console, TooFew, {"given": 0}, "keep -")
        self.check_wrong(console, TooFew, {"given": 0}, "shut abcd")
        console.say("undo")
        self.check_wrong(console, NothingToUndo, {}, "undo")

    def is_command(self, text):
        """Whether a string is one of the forms, by the words of the document."""
        word, *some = text.split(" ")
        if word not in FORMS or len(some) != (1 if FORMS[word] == 9 else FORMS[word]):
            return False
        letters = "abcdefghijklmnopqrstuvwxyz"
        if FORMS[word] == 9:
            return len(some[0]) == 1 and some[0] in letters
        return all(one == "-" or 0 < len(one) < 8 and set(one) <= set(letters) for one in some)

    def test_what_is_no_command(self):
        wrongs = []
        for word in FORMS:
            right = command_with(word)
            wrongs += [right + " ", " " + right, right + "\n", "\n" + right, right + " a a", right + " -", right.upper(), right + "\t",
                       right.replace(" ", "  "), right.replace(" ", "\n"), right.replace("a", "A"), right + ".", word + " ", word[1:],
                       word + " " + "a" * 8, word + " a1", word + " --", word + " a-", word + " -a", word + " a b c", word + " ,",
                       word + "  a", word + " a  b", word + " \n", word + " a\n", word + " a b\n", word + "s", word + " abcdefgh b",
                       word + " a abcdefgh", word + " \u00e9", word + " {", word + " `", word + " ab", word, word + " a", word + " a b",
                       word + " -", word + " - -", word + " a -"]
        wrongs += ["", " ", "-", "a", "none", "now", "changes", "trial", "hello", "around ab cd", "say keys", "keys;", "keys keys",
                   "half-modular", "undo undo", "add", "add a", "add a b c", "reasons -", "reasons ab", "bench", "ok", "rows 2"]
        console = Console(by_rules("abc", ()))
        before = stand(console)
        done = 0
        for text in wrongs:
            if not self.is_command(text):
                self.check_wrong(console, InvalidCommand, {"given": text}, text)
                done += 1
        self.assertGreater(done, 500)
        self.assertEqual(stand(console), before)

    def test_what_is_no_string(self):
        values = odd_values() + odd_tuples() + [(), ("keys",), ["keys"], b"keys", ("around", "a"), 5]
        for console in (Console(LINE), Console(Closer("a", ("a",))), Console(Closer(SEVEN, ("", SEVEN)))):
            kinds = [(InvalidCommand, [(value, value) for value in values + odd_words()])]
            self.check_call(console.say, ("command",), ("keys",), kinds)

    def test_signs_near_commands(self):
        signs = " -az\nA{"
        console = Console(by_rules("abc", ()))
        for command in ("add a bc", "close -", "undo", "reasons b", "rank ab", "stem", "holds - c"):
            near = [command[:at] + command[at + 1:] for at in range(len(command))]
            near += [command[:at] + sign + command[at:] for at in range(len(command) + 1) for sign in signs]
            near += [command[:at] + sign + command[at + 1:] for at in range(len(command)) for sign in signs]
            for text in near:
                if not self.is_command(text):
                    self.check_wrong(console, InvalidCommand, {"given": text}, text)


class Everywhere(ConsoleCase):

    def test_asking_changes_nothing(self):
        console = Console(FOUR)
        console.say("close ab")
        before = stand(console)
        for word, many in FORMS.items():
            if word in ("add", "close", "keep", "shut", "undo"):
                continue
            for some in itertools.product(("-", "a", "bd", "abcd"), repeat=1 if many == 9 else many):
                try:
                    first = console.say(" ".join([word, *some]))
                    self.assertEqual(console.say(" ".join([word, *some])), first)
                except (InvalidCommand, Swapped, Barred):
                    pass
                self.assertEqual(stand(console), before)


if __name__ == "__main__":
    unittest.main()
