"""[35] to [37]: one rule more, what it says that is new, whether it is built of the others."""

import itertools
import random
import unittest

from saymakers.books import Book, put_rules, read_book
from saymakers.court import is_calm
from saymakers.errors import InvalidBook, InvalidLot, InvalidRules, InvalidSheet, NotCalm, Refused
from saymakers.judge import sheet_paper
from saymakers.more import (
    built_holds, built_paper, fresh_sheet, least_joins, let_paper, let_together, new_holds, new_paper)
from saymakers.proofs import need_proof
from tests.some_proofs import random_saying
from tests.test_judge import NO_SHEETS
from tests.test_worlds import closed, right_world
from tests.tools import (
    AND, EMPTY, JUNK, LOGIC, MAY, TONK, Wrong, all_parts, all_worlds, calm_by_tables, changed, end_sheet, is_all_tuples,
    is_kept, is_same, listed, lots, parts, premises_of, random_book, rows, sheet_of, tells, wakes, words_of)

SECOND = read_book("maker m 2\nright m: | 2")
CROSS = ("m", "right", [((), (1, 2)), ((1,), (2,))])
MIXED = Book(TONK.makers + (("m", 1),), TONK.rules)
NO_RULES = tuple(each for each in JUNK) + (
    ("m", "right", [((), (3,))]), ("x", "right", []), ("m", "odd", []), ("m", "right"), ("m", "right", 5),
    ("m", "right", [((True,), ())]), ("m", "right", [[[0], []]]), ("M", "right", []), ("m", "right", [((1,), (2,), ())]))


def some_rule(rng, book, most=3):
    """Some rule for a maker of the book."""
    name, places = rng.choice(book.makers)
    lot = premises_of(places)
    return name, rng.choice(("left", "right")), tuple(rng.sample(lot, min(len(lot), rng.randint(0, most))))


def some_cases(seed, many, rules=5):
    """(calm book, rule), at random."""
    rng = random.Random(seed)
    for _ in range(many):
        book = random_book(rng, rng.choice((None, [("m", 1)], [("m", 2)], [("m", 3)], [("t", 0), ("m", 2)])), rules, 3, True)
        yield book, some_rule(rng, book)


def bars(book, rule):
    """All (number, row) of rules of the other side that are awake where the rule is."""
    return [(number, row) for number, (name, side, premises) in enumerate(book.rules)
            if name == rule[0] and side != rule[1] for row in rows(dict(book.makers)[name])
            if wakes(premises, row) and wakes(rule[2], row)]


def whole_of(book, name):
    """The maker's saying of letters."""
    return (name,) + tuple("abc"[:dict(book.makers)[name]])


def case_of(book, rule):
    """(facts, sheet): the rule's premises of letters, its saying alone."""
    whole = whole_of(book, rule[0])
    facts = tuple(tuple(tuple("abc"[k - 1] for k in side) for side in premise)
                  for premise in sorted({tuple(tuple(sorted(set(side))) for side in premise) for premise in rule[2]}))
    return facts, (((whole,), ()) if rule[1] == "left" else ((), (whole,)))


def refutes(row, premise):
    """Whether the row refutes the premise."""
    return all(row[k - 1] == 1 for k in premise[0]) and all(row[k - 1] == 0 for k in premise[1])


def barring_rows(book, rule, places):
    """All rows that bar the rule over these places."""
    others = [premises for name, side, premises in book.rules if (name, side) == rule[:2]]
    return [row for row in itertools.product((0, 1, None), repeat=dict(book.makers)[rule[0]])
            if all(row[k - 1] is not None for k in places)
            and all(any(refutes(row, premise) for premise in premises) for premises in others)
            and not any(refutes(row, premise) for premise in rule[2])]


def right_built(book, rule, places, value):
    """Whether the value is such a pair, reckoned here."""
    if type(value) is not tuple or len(value) != 2 or not is_all_tuples(value):
        return False
    if value[0] == "bars":
        return any(is_same(value[1], row) for row in barring_rows(book, rule, places))
    if value[0] != "built":
        return False
    facts, sheet = case_of(book, rule)
    try:
        need_proof(book, value[1], facts)
    except Exception:
        return False
    return end_sheet(book, value[1], facts) == sheet and all(
        part[1] in ["abc"[k - 1] for k in places] for part in all_parts(value[1]) if part[0] == "join")


def gathered(book, rule, places):
    """Whether the rule is built over these places, by gathering all sheets over letters and the saying that can be had."""
    facts, goal = case_of(book, rule)
    whole = whole_of(book, rule[0])
    letters = whole[1:]
    # Sheets are (left letters, right letters); the saying stands on the rule's side of each.
    sides = [frozenset(side) for side in lots(letters)]
    every = [(left, right) for left in sides for right in sides]
    done = {each for each in every if each[0] & each[1] or any(
        set(left) <= each[0] and set(right) <= each[1] for left, right in facts)}
    own = [premises for name, side, premises in book.rules if (name, side) == rule[:2]]
    joined = ["abc"[k - 1] for k in places]
    while True:
        more = {(left, right) for left, right in every if (left, right) not in done and (
            any(all((left | {"abc"[k - 1] for k in premise[0]}, right | {"abc"[k - 1] for k in premise[1]}) in done
                    for premise in premises) for premises in own)
            or any((left, right | {letter}) in done and (left | {letter}, right) in done for letter in joined))}
        if not more:
            return (frozenset(), frozenset()) in done
        done |= more


class LetTest(Wrong, unittest.TestCase):
    def test_let_paper(self):
        met = {}
        for book, rule in some_cases(350, 600):
            found = bars(book, rule)
            paper = let_paper(book, rule)
            self.assertTrue(is_same(paper, ("bars",) + found[0] if found else ("let",)))
            self.assertTrue(is_same(paper, let_paper(book, listed(rule))))
            self.assertEqual(paper == ("let",), is_calm(put_rules(book, [rule])))
            met[paper[0]] = met.get(paper[0], 0) + 1
        self.assertGreater(min(met.values()), 100)

    def test_let_together(self):
        rng = random.Random(351)
        met = {}
        for book, rule in some_cases(352, 600, 2):
            rules = [rule] + [some_rule(rng, book) for _ in range(rng.randint(0, 3))]
            rng.shuffle(rules)
            alone = [at for at, each in enumerate(rules) if bars(book, each)]
            pairs = [(at, later) for at, later in itertools.combinations(range(len(rules)), 2)
                     if not calm_by_tables(Book(book.makers, [rules[at], rules[later]]))]
            told = (alone[0],) if alone else pairs[0] if pairs else ()
            found = let_together(book, rules)
            self.assertTrue(is_same(found, told), (book.rules, rules))
            self.assertTrue(is_same(found, let_together(book, tuple(listed(each) for each in rules))))
            self.assertEqual(found == (), is_calm(put_rules(book, rules)))
            met[len(found)] = met.get(len(found), 0) + 1
        self.assertGreater(min(met.get(0, 0), met.get(1, 0), met.get(2, 0)), 30)

    def test_in_any_order_exactly_if_each_two(self):
        rng = random.Random(353)
        for book, rule in some_cases(354, 60, 2):
            rules = [rule, some_rule(rng, book), some_rule(rng, book)]
            orders = []
            for order in itertools.permutations(rules):
                greater, let = book, True
                for each in order:
                    let = let and let_paper(greater, each) == ("let",)
                    greater = put_rules(greater, [each]) if let else greater
                orders.append(let)
            self.assertEqual(set(orders), {let_together(book, rules) == ()})

    def test_edges(self):
        # Rules that are there already, that clash with those there, that are never awake.
        self.assertEqual(let_paper(AND, AND.rules[0]), ("let",))
        self.assertEqual(let_paper(AND, ("and", "left", [((), (1,))])), ("bars", 1, (1, 1)))
        self.assertEqual(let_paper(AND, ("and", "left", [])), ("bars", 1, (1, 1)))
        self.assertEqual(let_paper(AND, ("and", "left", [((), ())])), ("let",))
        self.assertEqual(let_paper(LOGIC, ("top", "left", [])), ("bars", LOGIC.rules.index(("top", "right", ())), ()))
        self.assertEqual(let_together(AND, []), ())
        self.assertEqual(let_together(EMPTY, ()), ())
        self.assertEqual(let_together(AND, AND.rules * 2), ())
        self.assertEqual(let_together(MAY, [("may", "left", [((1,), ())]), ("may", "right", [])]), (0, 1))
        self.assertEqual(let_together(MAY, [("may", "right", []), ("may", "left", [((), (1,))])]), (1,))

    def test_wrong(self):
        for value in JUNK[:12]:
            for call in (let_paper, let_together):
                self.wrong(InvalidBook, {"at": -1}, call, value, None)
        for rule in NO_RULES:
            self.wrong(InvalidRules, {"at": 0}, let_paper, SECOND, rule)
            self.wrong(InvalidRules, {"at": 0}, let_paper, MIXED, rule)
            self.wrong(InvalidRules, {"at": 0}, let_together, SECOND, [rule, 5])
            self.wrong(InvalidRules, {"at": 1}, let_together, MIXED, (("m", "right", []), rule))
        for rules in (None, 5, "m", EMPTY, True):
            self.wrong(InvalidRules, {"at": -1}, let_together, MIXED, rules)
        told = {"right": 1, "left": 0, "row": (1, 0)}
        self.wrong(NotCalm, told, let_paper, TONK, TONK.rules[0])
        self.wrong(NotCalm, told, let_together, TONK, [])


class NewTest(Wrong, unittest.TestCase):
    def some_sheets(self, seed, many, most=5):
        """(book, rule that may be put in, sheet)."""
        rng = random.Random(seed)
        cases = (each for at in itertools.count() for each in some_cases(seed + at, 50, 3))
        while many:
            book, rule = next(cases)
            lot = closed([random_saying(rng, book, 2), random_saying(rng, book, 1), "p"])
            if bars(book, rule) or len(lot) > most:
                continue
            fresh = fresh_sheet(book, rule)
            sides = ([], [])
            for saying in lot:
                if rng.random() < 0.6:
                    sides[rng.random() < 0.5].append(saying)
            sheet = sheet_of(*sides)
            if fresh is not None and rng.random() < 0.3:
                sheet = fresh
            many -= 1
            yield book, rule, sheet

    def right(self, book, rule, sheet, value):
        """Whether the value is such a tuple, reckoned here."""
        greater = put_rules(book, [rule])
        if type(value) is not tuple or not value or not is_all_tuples(value):
            return False
        if value[0] == "elder" and len(value) == 2:
            return self.proves(book, sheet, value[1])
        if value[0] == "new" and len(value) == 3:
            return self.proves(greater, sheet, value[1]) and self.breaks(book, sheet, value[2])
        return value[0] == "neither" and len(value) == 2 and self.breaks(greater, sheet, value[1])

    def proves(self, book, sheet, value):
        """Whether the value is a proof of the sheet."""
        try:
            need_proof(book, value)
        except Exception:
            return False
        return end_sheet(book, value) == sheet

    def breaks(self, book, sheet, value):
        """Whether the value is a world of the sheet's parts that does not keep it."""
        return (right_world(book, value) and tuple(dict(value)) == closed(sheet[0] + sheet[1])
                and not is_kept(dict(value), *sheet))

    def test_just_one_of_three(self):
        met = {}
        for book, rule, sheet in self.some_sheets(3600, 500):
            greater = put_rules(book, [rule])
            paper = new_paper(book, rule, sheet)
            self.assertTrue(is_all_tuples(paper))
            self.assertTrue(is_same(paper, new_paper(book, listed(rule), listed(sheet))))
            self.assertTrue(self.right(book, rule, sheet, paper), (book.rules, rule, sheet, paper))
            self.assertIs(new_holds(book, rule, sheet, paper), True)
            self.assertIs(new_holds(book, listed(rule), listed(sheet), paper), True)
            had = [sheet_paper(each, sheet)[0] == "proof" for each in (book, greater)]
            self.assertEqual(paper[0], "elder" if had[0] else "new" if had[1] else "neither")
            if paper[0] != "neither":
                self.assertNotIn("join", words_of(paper[1]))
            met[paper[0]] = met.get(paper[0], 0) + 1
            # A sheet without the maker says nothing new.
            if not any(not isinstance(part, str) and part[0] == rule[0] for saying in sheet[0] + sheet[1] for part in parts(saying)):
                self.assertNotEqual(paper[0], "new")
        self.assertGreater(min(met.values()), 40, met)

    def test_new_exactly_if_worlds_lack_the_rule(self):
        for book, rule, sheet in self.some_sheets(3700, 250):
            lot = closed(sheet[0] + sheet[1])
            broken = [world for world in all_worlds(book, lot) if not is_kept(world, *sheet)]
            new = bool(broken) and all(any(
                not isinstance(saying, str) and saying[0] == rule[0] and wakes(rule[2], [world[part] for part in saying[1:]])
                and world[saying] != (rule[1] == "right") for saying in lot) for world in broken)
            self.assertEqual(new_paper(book, rule, sheet)[0] == "new", new)

    def test_any_values(self):
        rules = (("m", "right", [((), (1,))]), SECOND.rules[0], ("m", "left", [((2,), ())]))
        sheets = ((("p",), (("m", "p", "q"),)), (("q",), (("m", "p", "q"),)), ((), (("m", "p", "q"),)), ((("m", "p", "p"),), ("p",)))
        for rule in rules:
            for sheet in sheets:
                paper = new_paper(SECOND, rule, sheet)
                for value in list(JUNK) + list(changed(paper))[:150] + [("elder",), ("new", paper[1]), ("neither",) + paper[1:]]:
                    self.assertIs(new_holds(SECOND, rule, sheet, value), self.right(SECOND, rule, sheet, value), value)

    def test_any_proofs_and_worlds(self):
        met = 0
        for book, rule, sheet in self.some_sheets(3800, 150):
            paper = new_paper(book, rule, sheet)
            greater = put_rules(book, [rule])
            lot = closed(sheet[0] + sheet[1])
            own, more = [[tuple(world.items()) for world in all_worlds(each, lot) if not is_kept(world, *sheet)]
                         for each in (book, greater)]
            for world in own:
                if paper[0] == "new":
                    self.assertIs(new_holds(book, rule, sheet, ("new", paper[1], world)), True)
                    join = ("thin", sheet, ("join", "p", ("thin", ((), ("p",)), paper[1]), ("thin", (("p",), ()), paper[1])))
                    self.assertTrue(self.right(book, rule, sheet, ("new", join, world)))
                    self.assertIs(new_holds(book, rule, sheet, ("new", join, world)), True)
                    self.assertIs(new_holds(book, rule, sheet, ("elder", join)), False)
                    met += 1
                self.assertIs(new_holds(book, rule, sheet, ("neither", world)), world in more)
            # Worlds of more sayings are no worlds of its parts.
            for world in all_worlds(greater, closed(lot + ("z",)))[:10]:
                self.assertIs(new_holds(book, rule, sheet, ("neither", tuple(world.items()))), False)
        self.assertGreater(met, 5)

    def test_fresh_sheets(self):
        met = {}
        for book, rule in some_cases(361, 500, 4):
            if bars(book, rule):
                continue
            name, places = rule[0], dict(book.makers)[rule[0]]
            found = [row for row in rows(places) if wakes(rule[2], row) and not tells(book, name, row)]
            sheet = fresh_sheet(book, rule)
            self.assertTrue(is_same(sheet, fresh_sheet(book, listed(rule))))
            met[bool(found)] = met.get(bool(found), 0) + 1
            if not found:
                self.assertIsNone(sheet)
                continue
            row = found[0]
            whole = (name,) + tuple("q" if truth else "r" for truth in row)
            left = ["q"] * (1 in row) + [whole] * (rule[1] == "left")
            right = ["r"] * (0 in row) + [whole] * (rule[1] == "right")
            self.assertTrue(is_same(sheet, sheet_of(left, right)), (sheet, row))
            self.assertEqual(new_paper(book, rule, sheet)[0], "new")
        self.assertGreater(min(met.values()), 60)

    def test_none_fresh_is_none_new(self):
        for book, rule, sheet in self.some_sheets(3900, 200):
            if fresh_sheet(book, rule) is None:
                self.assertNotEqual(new_paper(book, rule, sheet)[0], "new")

    def test_edges(self):
        self.assertEqual(fresh_sheet(SECOND, ("m", "right", [((), (1,))])), (("q",), ("r", ("m", "q", "r"))))
        self.assertEqual(fresh_sheet(SECOND, ("m", "left", [((1, 2), ()), ((2,), (1,))])), ((("m", "r", "r"),), ("r",)))
        self.assertEqual(fresh_sheet(Book([("m", 2)], ()), ("m", "right", [((), (1,)), ((), (2,))])), (("q",), (("m", "q", "q"),)))
        self.assertEqual(fresh_sheet(Book([("t", 0)], ()), ("t", "left", [])), ((("t",),), ()))
        # Rules that wake in no row, in told rows only, and that are there already.
        self.assertIsNone(fresh_sheet(SECOND, ("m", "left", [((), ())])))
        self.assertIsNone(fresh_sheet(SECOND, ("m", "right", [((), (1,)), ((), (2,))])))
        for rule in SECOND.rules:
            self.assertIsNone(fresh_sheet(SECOND, rule))
            self.assertEqual(new_paper(SECOND, rule, (("q",), (("m", "p", "q"),)))[0], "elder")

    def test_nine_parts(self):
        deep = ("most", ("most", "p", "q", "r"), ("most", "q", "r", "s"), "t")
        book = Book(LOGIC.makers, [rule for rule in LOGIC.rules if rule[:2] != ("most", "left")])
        rule = LOGIC.rules[[at for at, each in enumerate(LOGIC.rules) if each[:2] == ("most", "left")][0]]
        sheet = sheet_of([deep], ["p", ("or", "q", "t")])
        self.assertEqual(len(closed(sheet[0] + sheet[1])), 9)
        paper = new_paper(book, rule, sheet)
        self.assertTrue(self.right(book, rule, sheet, paper))
        self.assertIs(new_holds(book, rule, sheet, paper), True)

    def test_wrong(self):
        told = {"right": 1, "left": 0, "row": (1, 0)}
        for call, more in ((new_paper, (5,)), (new_holds, (5, 5)), (fresh_sheet, ())):
            for value in JUNK[:12]:
                self.wrong(InvalidBook, {"at": -1}, call, value, 5, *more)
            for rule in NO_RULES:
                self.wrong(InvalidRules, {"at": 0}, call, SECOND, rule, *more)
                self.wrong(InvalidRules, {"at": 0}, call, MIXED, rule, *more)
        for call, more in ((new_paper, ()), (new_holds, (5,))):
            for sheet in NO_SHEETS:
                self.wrong(InvalidSheet, {"at": -1}, call, MIXED, ("m", "right", []), sheet, *more)
        sheet = (("p",), ())
        for call, more in ((new_paper, (sheet,)), (new_holds, (sheet, 5)), (fresh_sheet, ())):
            self.wrong(NotCalm, told, call, MIXED, ("m", "right", []), *more)
            self.wrong(NotCalm, told, call, TONK, TONK.rules[0], *more)
            self.wrong(Refused, {"at": 1}, call, AND, ("and", "left", []), *more)
            self.wrong(Refused, {"at": 0}, call, AND, ("and", "right", [((1,), (2,))]), *more)


class BuiltTest(Wrong, unittest.TestCase):
    def test_just_one_of_both(self):
        met = {}
        rng = random.Random(370)
        for book, rule in some_cases(371, 700):
            places = dict(book.makers)[rule[0]]
            lot = rng.sample(range(1, places + 1), rng.randint(0, places))
            paper = built_paper(book, rule, lot)
            self.assertTrue(is_all_tuples(paper))
            self.assertTrue(is_same(paper, built_paper(book, listed(rule), tuple(lot))))
            self.assertTrue(right_built(book, rule, lot, paper), (book.rules, rule, lot, paper))
            self.assertIs(built_holds(book, rule, lot, paper), True)
            self.assertIs(built_holds(book, listed(rule), tuple(lot), paper), True)
            self.assertEqual(paper[0], "bars" if barring_rows(book, rule, lot) else "built")
            self.assertEqual(paper[0] == "built", gathered(book, rule, lot))
            met[paper[0]] = met.get(paper[0], 0) + 1
        self.assertGreater(min(met.values()), 100)

    def test_least_joins(self):
        met = {}
        for book, rule in some_cases(372, 500):
            every = [lot for lot in lots(range(1, dict(book.makers)[rule[0]] + 1)) if gathered(book, rule, lot)]
            least = tuple(sorted(lot for lot in every if not any(set(other) < set(lot) for other in every)))
            self.assertTrue(is_same(least_joins(book, rule), least))
            self.assertTrue(is_same(least_joins(book, listed(rule)), least))
            met[least] = True
        self.assertLessEqual({(), ((),), ((1,),), ((2,),), ((1, 2),)}, set(met))

    def test_over_all_places_exactly_if_all_its_rows_are_told_so(self):
        for book, rule in some_cases(373, 300):
            places = dict(book.makers)[rule[0]]
            told = all(tells(book, rule[0], row) == {int(rule[1] == "right")} for row in rows(places) if wakes(rule[2], row))
            self.assertEqual(built_paper(book, rule, list(range(1, places + 1)))[0] == "built", told)
            let = let_paper(book, rule) == ("let",)
            self.assertEqual(let and fresh_sheet(book, rule) is None, told)

    def test_edges(self):
        self.assertEqual(built_paper(SECOND, CROSS, ()), ("bars", (None, 0)))
        self.assertEqual(least_joins(SECOND, CROSS), ((1,),))
        for rule in SECOND.rules:
            self.assertEqual(built_paper(SECOND, rule, []), ("built", ("rule", 0, ("a", "b"), (("told", 0),))))
            self.assertEqual(least_joins(SECOND, rule), ((),))
        # A rule with the empty premise has anything; a rule of the other side, and no rule, build nothing.
        self.assertEqual(built_paper(SECOND, ("m", "right", [((), ())]), ()), ("built", ("thin", ((), (("m", "a", "b"),)), ("told", 0))))
        self.assertEqual(built_paper(SECOND, ("m", "left", []), [2, 1])[0], "bars")
        self.assertEqual(least_joins(SECOND, ("m", "left", [])), ())
        self.assertEqual(built_paper(SECOND, ("m", "right", []), [1]), ("bars", (0, 0)))
        self.assertEqual(built_paper(LOGIC, ("top", "right", ()), ())[0], "built")
        self.assertEqual(least_joins(LOGIC, ("top", "left", ())), ())
        self.assertEqual(built_paper(LOGIC, ("top", "left", ()), ()), ("bars", ()))
        # What the rule would bar is not asked here.
        self.assertEqual(let_paper(SECOND, ("m", "left", [])), ("bars", 0, (0, 1)))
        three = ("most", "right", [((), (1, 2, 3)), ((1,), (2, 3)), ((2,), (1, 3)), ((3,), (1, 2))])
        self.assertTrue(all(right_built(LOGIC, three, lot, built_paper(LOGIC, three, lot)) for lot in lots((1, 2, 3))))
        self.assertEqual(built_paper(LOGIC, ("most", "right", [((), (1, 2)), ((), (3,))]), ())[0], "built")

    def test_any_values(self):
        for book, rule, lot in ((SECOND, CROSS, ()), (SECOND, CROSS, (1,)), (SECOND, CROSS, (2, 1)), (AND, AND.rules[1], ()),
                                (AND, ("and", "right", ()), (1,)), (MAY, ("may", "right", [((), ())]), (1,))):
            paper = built_paper(book, rule, lot)
            rule = rule[0], rule[1], tuple(rule[2])
            for value in list(JUNK) + list(changed(paper))[:200] + [("bars", row) for row in itertools.product(
                    (0, 1, None), repeat=len(whole_of(book, rule[0])) - 1)] + [("bars", (True, 0)), ("bars", [0, 0]), ("bars", (2, 0)), ("bars", (2, 2)), ("bars", (0, 2)), ("bars", (-1, 0))]:
                self.assertIs(built_holds(book, rule, lot, value), right_built(book, rule, lot, value), value)

    def test_joins_on_other_letters(self):
        proof = built_paper(SECOND, CROSS, (1,))
        self.assertEqual([part[1] for part in all_parts(proof[1]) if part[0] == "join"], ["a"])
        self.assertIs(built_holds(SECOND, CROSS, (1, 2), proof), True)
        self.assertIs(built_holds(SECOND, CROSS, (2,), proof), False)
        self.assertIs(built_holds(SECOND, CROSS, (), proof), False)
        greater = Book(SECOND.makers + (("n", 1),), SECOND.rules)
        self.assertIs(built_holds(greater, CROSS, (1,), ("built", ("join", ("n", "a"), proof[1], proof[1]))), False)

    def test_wrong(self):
        told = {"right": 1, "left": 0, "row": (1, 0)}
        for call, more in ((built_paper, (5,)), (built_holds, (5, 5)), (least_joins, ())):
            for value in JUNK[:12]:
                self.wrong(InvalidBook, {"at": -1}, call, value, 5, *more)
            for rule in NO_RULES:
                self.wrong(InvalidRules, {"at": 0}, call, MIXED, rule, *more)
        for call, more in ((built_paper, ()), (built_holds, (5,))):
            for places in (None, 5, "1", EMPTY, True):
                self.wrong(InvalidLot, {"at": -1}, call, SECOND, CROSS, places, *more)
            for places, at in (([0], 0), ([3], 0), ([1, 3], 1), ([1, 1], 1), ((2, 1, 2), 2), ([True], 0), (["1"], 0), ([None], 0),
                               ([1, [2]], 1), ([-1], 0), ([EMPTY], 0), ([1, 2, 3], 2)):
                self.wrong(InvalidLot, {"at": at}, call, SECOND, CROSS, places, *more)
            self.wrong(InvalidLot, {"at": 0}, call, MIXED, ("m", "right", []), [2], *more)
            self.wrong(NotCalm, told, call, MIXED, ("m", "right", []), [1], *more)
        self.wrong(NotCalm, told, least_joins, MIXED, ("m", "right", []))
        self.wrong(InvalidLot, {"at": 0}, built_paper, LOGIC, ("top", "right", ()), [1])


if __name__ == "__main__":
    unittest.main()
