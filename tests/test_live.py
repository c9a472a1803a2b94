"""[57]: live books, their deeds and what is asked of them."""

import itertools
import random
import unittest

from saymakers.books import Book, read_book
from saymakers.court import is_calm
from saymakers.errors import (
    InvalidFacts, InvalidIndex, InvalidMakers, InvalidRules, InvalidSheet, InvalidSize, NoMaker, NoRule, Refused, SayError)
from saymakers.facts import follow_holds
from saymakers.live import Live
from tests.some_proofs import random_saying
from tests.test_facts import right_paper
from tests.test_judge import NO_SHEETS
from tests.test_middles import follows
from tests.test_worlds import closed
from tests.tools import (
    AND, EMPTY, JUNK, Wrong, is_all_tuples, is_same, listed, parts, premises_of, rows, sheet_of, tells, wakes)

NAMES = ("m", "n", "and", "tonk")
SO = ("may", "p")


class Plain:
    """A plain record of makers, rules and facts, and of the deeds done and taken back."""

    def __init__(self):
        self.states = [((), (), ())]
        self.at = 0
        self.asked = {}

    @property
    def state(self):
        """(makers, rules, facts) as they are."""
        return self.states[self.at]

    def do(self, makers, rules, facts):
        """A deed: what was taken back is gone."""
        self.states = self.states[:self.at + 1] + [(tuple(makers), tuple(rules), tuple(facts))]
        self.at += 1

    def book(self):
        """The book."""
        return Book(self.state[0], self.state[1])


def named(sheet):
    """The names of makers in the sheet."""
    return {part[0] for saying in sheet[0] + sheet[1] for part in parts(saying) if not isinstance(part, str)}


def renamed(saying, name, new):
    """The saying with another name for a maker."""
    return saying if isinstance(saying, str) else (
        (new if saying[0] == name else saying[0],) + tuple(renamed(part, name, new) for part in saying[1:]))


def fits(makers, sheet):
    """Whether the sheet's sayings are of the makers."""
    every = {(part[0], len(part) - 1) for saying in sheet[0] + sheet[1] for part in parts(saying) if not isinstance(part, str)}
    return every <= set(makers)


def is_rule(makers, rule):
    """Whether a rule drawn here is for one of the makers."""
    name, side, premises = rule
    return name in dict(makers) and all(place <= dict(makers)[name] for premise in premises for half in premise for place in half)


class Player:
    """Draws deeds for a live book and does the same in a plain record, one by one."""

    def __init__(self, test, rng, live=None):
        self.test, self.rng, self.live, self.plain = test, rng, live or Live(), Plain()

    def refuse(self, error, attributes, call, *args):
        """The deed is refused and changes nothing."""
        self.test.wrong(error, attributes, call, *args)

    def check(self):
        """Both are the same."""
        makers, rules, facts = self.plain.state
        self.test.assertEqual(self.live.book, Book(makers, rules))
        self.test.assertTrue(is_same(self.live.facts, facts))
        self.test.assertTrue(is_calm(self.live.book))
        self.test.assertTrue(is_all_tuples((self.live.book.makers, self.live.book.rules, self.live.facts)))

    def sheet(self):
        """Some small sheet."""
        book = self.plain.book() if self.rng.random() < 0.85 else AND
        lot = [random_saying(self.rng, book, 1) for _ in range(2)]
        return sheet_of(lot[:self.rng.randint(0, 1)], lot[1:][:self.rng.choice((0, 1, 1))])

    def step(self):
        """One deed, or one taken back or done again."""
        way = self.rng.choice(("put_maker", "put_rule", "put_rule", "put_rule", "drop", "rename", "strike", "tell", "tell",
                               "unfact", "undo", "undo", "redo", "redo", "ask", "ask", "turned"))
        getattr(self, way)()
        self.check()

    def put_maker(self):
        makers, rules, facts = self.plain.state
        name, places = self.rng.choice(NAMES), self.rng.choice((0, 1, 1, 2, 2, 3))
        if len(makers) >= 3:
            return
        if name in dict(makers):
            self.refuse(Refused, {"at": "maker"}, self.live.put_maker, name, places)
            return
        self.test.assertIsNone(self.live.put_maker(name, places))
        self.plain.do(makers + ((name, places),), rules, facts)

    def put_rule(self):
        makers, rules, facts = self.plain.state
        name, places = self.rng.choice(makers) if makers and self.rng.random() < 0.95 else (self.rng.choice(NAMES), 2)
        lot = premises_of(places)
        rule = (name, self.rng.choice(("left", "right")), tuple(sorted(self.rng.sample(lot, min(len(lot), self.rng.randint(0, 2))))))
        if not is_rule(makers, rule):
            self.refuse(InvalidRules, {"at": -1}, self.live.put_rule, rule)
        elif rule in rules:
            self.refuse(Refused, {"at": "rule"}, self.live.put_rule, listed(rule))
        elif any(len(tells(Book(makers, rules + (rule,)), name, row)) > 1 for row in rows(dict(makers)[name])):
            self.refuse(Refused, {"at": "clash"}, self.live.put_rule, rule)
        elif len(rules) < 14:
            self.test.assertIsNone(self.live.put_rule(self.rng.choice((rule, listed(rule)))))
            self.plain.do(makers, rules + (rule,), facts)

    def drop(self):
        makers, rules, facts = self.plain.state
        name = self.rng.choice(NAMES)
        if name not in dict(makers):
            self.refuse(NoMaker, {"name": name}, self.live.drop_maker, name)
        elif any(name in named(fact) for fact in facts):
            self.refuse(Refused, {"at": "facts"}, self.live.drop_maker, name)
        else:
            self.test.assertIsNone(self.live.drop_maker(name))
            self.plain.do([each for each in makers if each[0] != name], [each for each in rules if each[0] != name], facts)

    def rename(self):
        makers, rules, facts = self.plain.state
        name, new = self.rng.choice(NAMES), self.rng.choice(NAMES)
        if name not in dict(makers):
            self.refuse(NoMaker, {"name": name}, self.live.rename_maker, name, new)
        elif new in dict(makers):
            self.refuse(Refused, {"at": "maker"}, self.live.rename_maker, name, new)
        else:
            self.test.assertIsNone(self.live.rename_maker(name, new))
            self.plain.do([(new if own == name else own, places) for own, places in makers],
                          [(new if own == name else own,) + tuple(more) for own, *more in rules],
                          [sheet_of(*[[renamed(saying, name, new) for saying in half] for half in fact]) for fact in facts])

    def strike(self):
        makers, rules, facts = self.plain.state
        number = self.rng.randint(0, max(1, len(rules)))
        if number >= len(rules):
            self.refuse(NoRule, {"number": number}, self.live.strike_rule, number)
        else:
            self.test.assertIsNone(self.live.strike_rule(number))
            gone = sorted(rules)[number]
            self.plain.do(makers, [rule for rule in rules if rule != gone], facts)

    def tell(self):
        makers, rules, facts = self.plain.state
        fact = self.sheet()
        if not fits(makers, fact):
            self.refuse(InvalidSheet, {"at": -1}, self.live.tell_fact, fact)
        elif fact in facts:
            self.refuse(Refused, {"at": "fact"}, self.live.tell_fact, listed(fact)[::1])
        elif len(facts) < 2:
            self.test.assertIsNone(self.live.tell_fact(self.rng.choice((fact, listed(fact)))))
            self.plain.do(makers, rules, facts + (fact,))

    def unfact(self):
        makers, rules, facts = self.plain.state
        number = self.rng.randint(0, len(facts))
        if number == len(facts):
            self.refuse(InvalidIndex, {"at": -1}, self.live.strike_fact, number)
        else:
            self.test.assertIsNone(self.live.strike_fact(number))
            self.plain.do(makers, rules, facts[:number] + facts[number + 1:])

    def undo(self):
        self.test.assertIs(self.live.undo_deed(), self.plain.at > 0)
        self.plain.at = max(0, self.plain.at - 1)

    def redo(self):
        more = self.plain.at + 1 < len(self.plain.states)
        self.test.assertIs(self.live.redo_deed(), more)
        self.plain.at += more

    def small(self, sheet):
        """Whether the sheet may be asked beside the facts."""
        return len(closed([saying for each in self.plain.state[2] + (sheet,) for half in each for saying in half])) <= 9

    def ask(self):
        makers, rules, facts = self.plain.state
        sheet = self.rng.choice(list(self.plain.asked) + [self.sheet()] * 2)
        if not fits(makers, sheet):
            self.refuse(InvalidSheet, {"at": -1}, self.live.ask_sheet, sheet)
            return
        if not self.small(sheet) or len(self.plain.asked) >= 9 and sheet not in self.plain.asked:
            return
        paper = self.live.ask_sheet(self.rng.choice((sheet, listed(sheet))))
        book = self.plain.book()
        self.test.assertTrue(right_paper(book, facts, sheet, paper))
        self.test.assertEqual(paper[0], "tree" if follows(book, facts, sheet) else "world")
        before = self.plain.asked.get(sheet)
        if before is not None and right_paper(book, facts, sheet, before):
            self.test.assertTrue(is_same(paper, before))
        self.plain.asked[sheet] = paper

    def turned(self):
        makers, rules, facts = self.plain.state
        asked = [sheet for sheet in self.plain.asked if fits(makers, sheet)]
        if not all(map(self.small, asked)):
            return
        right = tuple(sheet for sheet in asked
                      if follows(self.plain.book(), facts, sheet) != (self.plain.asked[sheet][0] == "tree"))
        self.test.assertTrue(is_same(self.live.turned_sheets(), right))
        self.test.assertTrue(is_same(self.live.turned_sheets(), right))
        self.turns = getattr(self, "turns", 0) + len(right)


class DeedsTest(Wrong, unittest.TestCase):
    def test_drawn_deeds_against_a_plain_record(self):
        turns = 0
        for seed in range(60):
            player = Player(self, random.Random(5700 + seed))
            for _ in range(60):
                player.step()
            turns += getattr(player, "turns", 0)
        self.assertGreater(turns, 30)

    def test_two_live_books_do_not_touch_each_other(self):
        for seed in range(8):
            rng = random.Random(5800 + seed)
            players = [Player(self, rng), Player(self, rng), Player(self, random.Random(1))]
            for _ in range(60):
                rng.choice(players).step()
                for player in players:
                    player.check()

    def test_at_first(self):
        live = Live()
        self.assertEqual((live.book, live.facts), (EMPTY, ()))
        self.assertIs(live.undo_deed(), False)
        self.assertIs(live.redo_deed(), False)
        self.assertEqual(live.turned_sheets(), ())
        # Live books without makers: letters are asked all the same.
        self.assertEqual(live.ask_sheet((("p",), ("p",))), ("tree", ("plain", ("start", "p"))))
        self.assertEqual(live.ask_sheet((("p",), ("q",))), ("world", (("p", 1), ("q", 0))))
        self.assertIsNone(live.tell_fact((("p",), ("q",))))
        self.assertEqual(live.turned_sheets(), ((("p",), ("q",)),))
        self.assertEqual(live.ask_sheet((("p",), ("q",)))[0], "tree")
        self.assertEqual(live.turned_sheets(), ())
        self.assertIs(live.undo_deed(), True)
        self.assertEqual(live.turned_sheets(), ((("p",), ("q",)),))
        for call in (iter, list, len):
            with self.assertRaises(TypeError):
                call(live)
        self.assertNotEqual(live, Live())

    def test_books_and_facts_are_kept_as_they_were(self):
        live = Live()
        live.put_maker("m", 2)
        book, facts = live.book, live.facts
        rule = ["m", "right", [[[], [1]]]]
        live.put_rule(rule)
        fact = [["p"], [["m", "p", "q"]]]
        live.tell_fact(fact)
        rule[2][0][1].append(2)
        fact[0].append("odd")
        fact[1][0][1] = "odd"
        self.assertEqual(live.book, Book([("m", 2)], [("m", "right", [((), (1,))])]))
        self.assertEqual(live.facts, ((("p",), (("m", "p", "q"),)),))
        self.assertEqual((book, facts), (Book([("m", 2)], ()), ()))
        live.undo_deed(), live.undo_deed()
        self.assertEqual((live.book, live.facts), (book, facts))
        live.put_maker(name="n", places=0), live.put_rule(rule=("n", "left", ())), live.tell_fact(sheet=((), ()))
        live.strike_rule(number=0), live.strike_fact(number=0), live.rename_maker(name="n", new="o"), live.drop_maker(name="o")
        self.assertEqual(live.book, book)
        self.assertEqual(live.ask_sheet(sheet=(("p",), ("p",)))[0], "tree")

    def test_deeds_taken_back_and_new_ones_behind(self):
        live = Live()
        live.put_maker("m", 1), live.put_maker("n", 1), live.put_maker("o", 1)
        self.assertEqual([live.undo_deed(), live.undo_deed()], [True, True])
        self.assertEqual(live.book.makers, (("m", 1),))
        self.assertIs(live.redo_deed(), True)
        self.assertEqual(live.book.makers, (("m", 1), ("n", 1)))
        # Refused deeds and what is asked are no deeds: what is taken back may be done again behind them.
        self.wrong(Refused, {"at": "maker"}, live.put_maker, "m", 2)
        self.wrong(NoRule, {"number": 0}, live.strike_rule, 0)
        live.ask_sheet(((), ())), live.turned_sheets()
        self.assertIs(live.redo_deed(), True)
        self.assertEqual(len(live.book.makers), 3)
        self.assertIs(live.undo_deed(), True)
        live.drop_maker("n")
        self.assertIs(live.redo_deed(), False)
        self.assertEqual([live.undo_deed() for _ in range(4)], [True, True, True, False])
        self.assertEqual([live.redo_deed() for _ in range(4)], [True, True, True, False])
        self.assertEqual(live.book.makers, (("m", 1),))

    def test_wrong_values(self):
        live = Live()
        live.put_maker("m", 2), live.put_maker("t", 0)
        live.put_rule(("m", "right", [((), (1,))])), live.tell_fact(((), (("m", "p", ("t",)),)))
        kept = (live.book, live.facts)
        for name in (None, 5, "", "M", "m1", "abcdefghi", True, ("m",), ["m"], EMPTY, "a b"):
            self.wrong(InvalidMakers, {"at": -1}, live.put_maker, name, 1)
            self.wrong(NoMaker, {"name": name}, live.drop_maker, name)
            self.wrong(NoMaker, {"name": name}, live.rename_maker, name, 5)
            self.wrong(InvalidMakers, {"at": -1}, live.rename_maker, "m", name)
        for places in (-1, 4, True, None, "1", (1,), EMPTY):
            self.wrong(InvalidMakers, {"at": -1}, live.put_maker, "x", places)
            self.wrong(InvalidMakers, {"at": -1}, live.put_maker, "m", places)
        self.wrong(Refused, {"at": "maker"}, live.put_maker, "m", 2)
        self.wrong(Refused, {"at": "maker"}, live.rename_maker, "m", "t")
        self.wrong(Refused, {"at": "maker"}, live.rename_maker, "m", "m")
        for name in ("m", "t"):
            self.wrong(Refused, {"at": "facts"}, live.drop_maker, name)
        for rule in JUNK + (("x", "right", []), ("m", "odd", []), ("m", "right", [((3,), ())]), ("t", "left", [((1,), ())])):
            self.wrong(InvalidRules, {"at": -1}, live.put_rule, rule)
        self.wrong(Refused, {"at": "rule"}, live.put_rule, ["m", "right", [[[], [1, 1]], ((), (1,))]])
        self.wrong(Refused, {"at": "clash"}, live.put_rule, ("m", "left", [((), (2,))]))
        for number in (1, -1, None, True, False, "0", (0,), [0], EMPTY):
            self.wrong(NoRule, {"number": number}, live.strike_rule, number)
            self.wrong(InvalidIndex, {"at": -1}, live.strike_fact, number)
        for sheet in NO_SHEETS + (((("x", "p"),), ()),):
            for call in (live.tell_fact, live.ask_sheet):
                self.wrong(InvalidSheet, {"at": -1}, call, sheet)
        self.wrong(Refused, {"at": "fact"}, live.tell_fact, [[], [["m", "p", ["t"]]]])
        self.assertEqual((live.book, live.facts), kept)
        self.assertIs(live.redo_deed(), False)
        self.assertEqual([live.undo_deed() for _ in range(5)], [True] * 4 + [False])

    def test_letters_that_have_a_makers_name(self):
        live = Live()
        live.put_maker("m", 1), live.put_maker("n", 1)
        live.tell_fact((("m", "mm"), (("n", "m"),)))
        live.rename_maker("m", "o")
        self.assertEqual(live.facts, ((("m", "mm"), (("n", "m"),)),))
        live.undo_deed()
        live.drop_maker("m")
        self.assertEqual(live.book.makers, (("n", 1),))
        self.wrong(Refused, {"at": "facts"}, live.drop_maker, "n")

    def test_renaming(self):
        live = Live()
        live.put_maker("m", 2), live.put_maker("n", 1)
        live.put_rule(("m", "right", [((), (1,))])), live.put_rule(("n", "left", []))
        live.tell_fact(((("n", ("m", "p", "q")), ("m", "p", "p")), (("m", ("n", "p"), "q"),)))
        live.ask_sheet(((), (("n", "p"),)))
        live.rename_maker("n", "zz")
        self.assertEqual(live.book, Book([("m", 2), ("zz", 1)], [("m", "right", [((), (1,))]), ("zz", "left", [])]))
        self.assertEqual(live.facts, (sheet_of([("zz", ("m", "p", "q")), ("m", "p", "p")], [("m", ("zz", "p"), "q")]),))
        # Rules are numbered anew, sheets stand in order again.
        live.rename_maker("m", "zzz")
        self.assertEqual([rule[0] for rule in live.book.rules], ["zz", "zzz"])
        self.assertEqual(live.facts, (sheet_of([("zz", ("zzz", "p", "q")), ("zzz", "p", "p")], [("zzz", ("zz", "p"), "q")]),))
        # What was asked stays as it was asked.
        self.wrong(InvalidSheet, {"at": -1}, live.ask_sheet, ((), (("n", "p"),)))
        self.assertEqual(live.turned_sheets(), ())
        live.undo_deed(), live.undo_deed()
        self.assertEqual(live.facts, (sheet_of([("n", ("m", "p", "q")), ("m", "p", "p")], [("m", ("n", "p"), "q")]),))


class AskedTest(Wrong, unittest.TestCase):
    def test_the_last_answer_as_long_as_it_holds(self):
        live = Live()
        live.put_maker("may", 1)
        sheet = (("p",), (SO,))
        first = live.ask_sheet(sheet)
        self.assertEqual(first[0], "world")
        # Another maker, and a fact that the world keeps and has, leave it as it is.
        live.put_maker("n", 1), live.put_rule(("n", "right", ()))
        self.assertTrue(is_same(live.ask_sheet(sheet), first))
        live.tell_fact(((SO,), ("p",)))
        self.assertTrue(is_same(live.ask_sheet(sheet), first))
        # A fact with more sayings wants a world that has them; that one is given on when the fact is struck.
        live.tell_fact((("z",), ()))
        second = live.ask_sheet(sheet)
        self.assertIn(("z", 0), second[1])
        live.strike_fact(1)
        self.assertTrue(is_same(live.ask_sheet(sheet), second))
        live.put_rule(("may", "right", [((), (1,))]))
        self.assertEqual(live.turned_sheets(), (sheet,))
        third = live.ask_sheet(sheet)
        self.assertEqual(third[0], "tree")
        self.assertEqual(live.turned_sheets(), ())
        # Where the rule gets another number, another tree is given, and nothing turns.
        self.assertIs(follow_holds(live.book, live.facts, sheet, third), True)
        live.put_rule(("may", "left", [((1,), ()), ((), ())]))
        self.assertEqual(live.turned_sheets(), ())
        self.assertTrue(right_paper(live.book, live.facts, sheet, live.ask_sheet(sheet)))
        live.undo_deed(), live.undo_deed()
        self.assertEqual(live.turned_sheets(), (sheet,))

    def test_sheets_asked_turned_and_asked_again(self):
        live = Live()
        sheets = [(("p",), ("q",)), (("q",), ("p",)), ((), ("q",)), (("r",), ("r",))]
        for sheet in sheets:
            live.ask_sheet(sheet)
        live.ask_sheet(sheets[0])
        live.tell_fact(((), ("q",)))
        # In the order in which they were first asked.
        self.assertEqual(live.turned_sheets(), (sheets[0], sheets[2]))
        live.ask_sheet(sheets[2])
        self.assertEqual(live.turned_sheets(), (sheets[0],))
        live.strike_fact(0)
        self.assertEqual(live.turned_sheets(), (sheets[2],))
        live.undo_deed()
        self.assertEqual(live.turned_sheets(), (sheets[0],))
        live.tell_fact((("q",), ("p",)))
        self.assertEqual(live.turned_sheets(), tuple(sheets[:2]))
        # Sheets in lists, unordered and with sayings twice are the same sheet.
        live.ask_sheet([["q", "q"], ["p"]])
        self.assertEqual(live.turned_sheets(), (sheets[0],))

    def test_sheets_of_dropped_makers(self):
        live = Live()
        live.put_maker("may", 1)
        sheet = ((SO,), ("p",))
        live.ask_sheet(sheet)
        live.put_rule(("may", "left", [((1,), ())]))
        self.assertEqual(live.turned_sheets(), (sheet,))
        live.drop_maker("may")
        self.assertEqual(live.turned_sheets(), ())
        self.wrong(InvalidSheet, {"at": -1}, live.ask_sheet, sheet)
        live.put_maker("may", 2)
        self.assertEqual(live.turned_sheets(), ())
        live.undo_deed(), live.undo_deed()
        self.assertEqual(live.turned_sheets(), (sheet,))

    def test_sizes(self):
        live = Live()
        letters = tuple("abcdefghijklmn")
        live.ask_sheet((letters, ()))
        for call, args in ((live.ask_sheet, ((letters, ("z",)),)),):
            self.wrong(InvalidSize, {"word": "sayings"}, call, *args)
        live.ask_sheet((("p",), ("q",)))
        live.tell_fact((("z",), ("y",)))
        self.assertEqual(live.ask_sheet((("p",), ("q",)))[0], "world")
        self.wrong(InvalidSize, {"word": "sayings"}, live.ask_sheet, (letters, ()))
        self.wrong(InvalidSize, {"word": "sayings"}, live.turned_sheets)
        live.undo_deed()
        self.assertEqual(live.turned_sheets(), ())
        # What could not be answered was not asked.
        self.assertEqual(live.ask_sheet((letters, ()))[0], "world")
        for at in itertools.islice(itertools.product("abcdefg", repeat=2), 40):
            live.tell_fact(((), ("".join(at),)))
        self.wrong(InvalidSize, {"word": "sayings"}, live.ask_sheet, (("p",), ("p",)))
        live.tell_fact(((), ("zz",)))
        self.wrong(InvalidFacts, {"at": -1}, live.ask_sheet, (("p",), ("p",)))

    def some_lives(self, seed, many):
        """(player, sheet asked) with some makers, rules and facts."""
        for at in range(many):
            player = Player(self, random.Random(seed + at))
            for _ in range(40):
                player.step()
            sheet = player.sheet()
            if fits(player.plain.state[0], sheet) and player.small(sheet):
                yield player, sheet

    def test_what_goes_on_to_follow(self):
        for player, sheet in self.some_lives(5900, 60):
            makers, rules, facts = player.plain.state
            before = follows(player.plain.book(), facts, sheet)
            for way in (player.put_maker, player.put_rule, player.tell, player.put_rule):
                way()
                if before and player.small(sheet):
                    self.assertTrue(follows(player.plain.book(), player.plain.state[2], sheet))

    def test_makers_in_no_sheet_turn_none(self):
        met = 0
        for player, sheet in self.some_lives(6000, 60):
            live = player.live
            live.ask_sheet(sheet)
            other = [name for name in NAMES if name not in dict(live.book.makers)]
            if not other:
                continue
            turned = live.turned_sheets()
            live.put_maker(other[0], 2)
            self.assertEqual(live.turned_sheets(), turned)
            live.put_rule((other[0], "right", [((), (1,))]))
            self.assertEqual(live.turned_sheets(), turned)
            live.drop_maker(other[0])
            self.assertEqual(live.turned_sheets(), turned)
            met += 1
        self.assertGreater(met, 10)

    def test_rules_turn_sheets_only_by_open_rows(self):
        turned = 0
        for player, sheet in self.some_lives(6100, 120):
            live = player.live
            live.ask_sheet(sheet)
            if live.turned_sheets():
                continue
            name, places = player.rng.choice(live.book.makers) if live.book.makers else ("m", 0)
            lot = premises_of(places)
            rule = (name, player.rng.choice(("left", "right")), tuple(player.rng.sample(lot, 1)))
            gaps = [row for row in rows(places) if not tells(live.book, name, row)]
            try:
                live.put_rule(rule)
            except SayError:
                continue
            if live.turned_sheets():
                turned += 1
                self.assertTrue(any(wakes(rule[2], row) for row in gaps))
        self.assertGreater(turned, 0)

    def test_a_lot_of_rules_can_be_a_books_exactly_if_each_two_can(self):
        rng = random.Random(571)
        for _ in range(80):
            rules = [("m", rng.choice(("left", "right")), tuple(rng.sample(premises_of(2), 2))) for _ in range(4)]
            two = all(is_calm(Book([("m", 2)], pair)) for pair in itertools.combinations(rules, 2))
            rng.shuffle(rules)
            live = Live()
            live.put_maker("m", 2)
            let = True
            for rule in rules:
                try:
                    live.put_rule(rule)
                except Refused as error:
                    let = let and error.at == "rule"
            self.assertEqual(let, two)

    def test_largest(self):
        live = Live()
        book = read_book("maker and 2\nright and: | 1; | 2\nleft and: 1 2 |\nmaker or 2\nright or: | 1 2\nleft or: 1 |; 2 |\n"
                         "maker most 3\nright most: | 1 2; | 1 3; | 2 3\nleft most: 1 2 |; 1 3 |; 2 3 |")
        for name, places in book.makers:
            live.put_maker(name, places)
        for rule in book.rules:
            live.put_rule(rule)
        live.tell_fact((("p", "q"), ("r", "s"))), live.tell_fact(((("or", "r", "s"),), (("and", "p", "q"),)))
        sheets = [sheet_of([("most", "p", "q", letter)], [("or", "r", other), ("and", "p", other)]) for letter in "rs" for other in "pqs"]
        for sheet in sheets:
            self.assertIs(follow_holds(live.book, live.facts, sheet, live.ask_sheet(sheet)), True)
        live.strike_fact(0)
        for sheet in live.turned_sheets():
            self.assertFalse(follows(live.book, live.facts, sheet))


if __name__ == "__main__":
    unittest.main()
