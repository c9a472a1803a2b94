"""[54]: proofs of many signs, their ends, papers of proofs and worlds."""

import itertools
import random
import unittest

from saymakers.books import Book
from saymakers.errors import InvalidProof, InvalidSheet, InvalidSigned, Refused
from saymakers.judge import fewest_uses, sheet_paper
from saymakers.signproofs import joinless_proof, signed_end, signed_holds, signed_paper
from saymakers.signs import Signed, plain_signed, signed_court, signed_nonsense
from saymakers.signsearch import makers_with_joins
from tests.some_proofs import random_saying
from tests.test_sayings import DEEP, NO_SAYINGS, wide
from tests.test_signs import THREE, awake, common, random_signed, sign_end
from tests.test_worlds import closed, fits
from tests.tools import (
    AND, JUNK, TONK, Wrong, all_parts, changed, in_order, is_all_tuples, kids_of, listed, lots, random_books, rows)

# Two rules give "either" two signs each, so that its table [0] is no rule's lot.
JOINED = Signed(3, [("either", 0)], [("either", [0, 1], []), ("either", [0, 2], [])])
# Each rule's lot is all signs but one.
BUT_ONE = Signed(4, [("m", 1)], [("m", [other for other in range(4) if other != sign], [[(sign, 1)]]) for sign in range(4)])
ODDS = Signed(2, [("m", 1)], [("m", [0], []), ("m", [1], [[(1, 1)]])])
WHOLE = ("either",)


def told(pairs):
    """The pairs as a sheet of signs in order."""
    every = in_order([saying for sign, saying in pairs])
    return tuple(sorted(set(pairs), key=lambda pair: (every.index(pair[1]), pair[0])))


def all_sign_worlds(signed, lot):
    """All worlds of signs of a closed lot, as dicts."""
    found = []
    for signs in itertools.product(range(signed.count), repeat=len(lot)):
        world = dict(zip(lot, signs))
        if all(isinstance(saying, str) or sign in common(signed, awake(
                signed, saying[0], [world[part] for part in saying[1:]])) for saying, sign in world.items()):
            found.append(world)
    return found


def barring(signed, sheet):
    """The worlds of the sheet's sayings and parts with none of its pairs."""
    return [world for world in all_sign_worlds(signed, closed([saying for sign, saying in sheet]))
            if not any(world[saying] == sign for sign, saying in sheet)]


def wanting(signed):
    """The makers that need joins, reckoned here."""
    found = set()
    for name, places in signed.makers:
        for row in rows(places, signed.count):
            numbers = awake(signed, name, row)
            table = common(signed, numbers)
            if len(table) < signed.count and tuple(sorted(table)) not in [signed.rules[each][1] for each in numbers]:
                found.add(name)
    return found


def depth_of(proof):
    """How many parts stand one within another."""
    return 1 + max([0] + [depth_of(kid) for kid in kids_of(proof)])


def sayings_in(signed, proof):
    """All sayings that a proof has."""
    found = set()
    for part in all_parts(proof):
        if part[0] in ("start", "join"):
            found.add(part[1])
        elif part[0] == "thin":
            found |= {saying for sign, saying in part[1]}
        else:
            found |= {(signed.rules[part[1]][0],) + part[2]} | set(part[2])
    return found


def wide_signed(rng):
    """Some book of signs whose rules have few premises, so that many of them are awake at once."""
    count = rng.choice((3, 4))
    makers = [(name, rng.choice((0, 1, 2))) for name in ("n", "m")[:rng.randint(1, 2)]]
    rules = []
    for _ in range(rng.randint(2, 7)):
        name, places = rng.choice(makers)
        pairs = list(itertools.product(range(count), range(1, places + 1)))
        rules.append((name, rng.sample(range(count), rng.randint(2, count - 1)), [
            rng.sample(pairs, min(len(pairs), rng.randint(1, 3))) for _ in range(rng.randint(0, 1) if places else 0)]))
    return Signed(count, makers, rules)


def some_sheets(seed, many, most, calm=None, rules=7, **more):
    """(signed, sheet of signs) with at most so many sayings and parts, at random."""
    rng = random.Random(seed)
    while many:
        signed = wide_signed(rng) if calm and many % 3 == 0 else random_signed(rng, rules=rules, **more)
        if calm is not None and (signed_court(signed) == ("calm",)) != calm:
            continue
        lot = closed([random_saying(rng, signed, 2) for _ in range(rng.randint(1, 3))])
        if len(lot) > most:
            continue
        pairs = [(sign, saying) for saying in lot for sign in range(signed.count)]
        dense = rng.choice((0.2, 0.4, 0.6, 0.7))
        many -= 1
        yield signed, told([pair for pair in pairs if rng.random() < dense])


def without_joins(signed, lot):
    """All sheets of signs over the lot with a proof without joins, as frozensets, found by going round and round."""
    pairs = [(sign, saying) for saying in lot for sign in range(signed.count)]
    every = [frozenset(each) for each in lots(pairs)]
    done = {sheet for sheet in every if any(all((sign, saying) in sheet for sign in range(signed.count)) for saying in lot)}
    rules = []
    for whole in lot:
        for name, signs, premises in signed.rules:
            if not isinstance(whole, str) and name == whole[0]:
                rules.append(({(sign, whole) for sign in signs},
                              [{(sign, whole[place]) for sign, place in premise} for premise in premises]))
    while True:
        more = {sheet for sheet in every if sheet not in done and any(
            own <= sheet and all(sheet | premise in done for premise in premises) for own, premises in rules)}
        if not more:
            return done
        done |= more


class EndsTest(Wrong, unittest.TestCase):
    def test_ends(self):
        start = ("start", "p")
        for proof, sheet in (
                (start, ((0, "p"), (1, "p"), (2, "p"))),
                (("thin", (), start), ((0, "p"), (1, "p"), (2, "p"))),
                (("thin", ((1, "a"), (2, WHOLE)), start), ((1, "a"), (2, WHOLE), (0, "p"), (1, "p"), (2, "p"))),
                (("rule", 0, (), ()), ((0, WHOLE), (1, WHOLE))),
                (("join", WHOLE, ("rule", 0, (), ()), ("rule", 1, (), ())), ((0, WHOLE),)),
                (("join", "p", ("rule", 0, (), ()), start), ((0, WHOLE), (1, WHOLE))),
                (("join", "p", start, start), ((0, "p"), (1, "p"), (2, "p"))),
                (("join", "q", start, ("rule", 0, (), ())), ((0, WHOLE), (1, WHOLE), (0, "p"), (1, "p"), (2, "p")))):
            self.assertEqual(signed_end(JOINED, proof), told(sheet))
            self.assertIs(signed_holds(JOINED, sheet, ("proof", proof)), True)
            self.assertIs(signed_holds(JOINED, listed(sheet)[::-1], ("proof", proof)), True)
            self.assertIs(signed_holds(JOINED, sheet[1:], ("proof", proof)), False)
            self.wrong(InvalidProof, {"at": 0}, signed_end, JOINED, listed(proof))
        rule = ("rule", 1, ("p", "p"), (("start", "p"), ("thin", ((0, "q"),), ("start", "p"))))
        self.assertEqual(signed_end(THREE, rule), told([(0, ("mid", "p", "p")), (1, ("mid", "p", "p")), (0, "q"),
                                                        (1, "p"), (2, "p")]))
        self.assertEqual(signed_end(BUT_ONE, ("rule", 3, ("p",), (("start", "p"),))),
                         told([(1, ("m", "p")), (2, ("m", "p")), (3, ("m", "p")), (1, "p"), (2, "p"), (3, "p")]))

    def test_random_ends(self):
        rng = random.Random(271)
        for _ in range(250):
            signed = random_signed(rng)
            pool = [("start", "p"), ("start", "q"), ("start", random_saying(rng, signed, 2))]
            for _ in range(12):
                if signed.rules and rng.random() < 0.6:
                    number = rng.randrange(len(signed.rules))
                    name, lot, premises = signed.rules[number]
                    sayings = tuple(random_saying(rng, signed, 1) for _ in range(dict(signed.makers)[name]))
                    pool.append(("rule", number, sayings, tuple(rng.choice(pool) for _ in premises)))
                elif rng.random() < 0.6:
                    pairs = sorted(sign_end(signed, rng.choice(pool)), key=str)
                    saying = rng.choice(pairs)[1] if pairs else "p"
                    pool.append(("join", saying, rng.choice(pool), rng.choice(pool)))
                else:
                    pool.append(("thin", told([(rng.randrange(signed.count), random_saying(rng, signed, 1))
                                               for _ in range(2)]), rng.choice(pool)))
            proof = pool[-1]
            if len(all_parts(proof)) < 400:
                self.assertEqual(signed_end(signed, proof), told(sign_end(signed, proof)))

    def test_wrong_forms(self):
        start = ("start", "p")
        signed = Signed(2, [("m", 1), ("no", 1), ("w", 3)], [("m", [0], [[(1, 1)], [(0, 1)]]), ("no", [1], [])])
        for value in list(JUNK) + [
                ("start", "P"), ("start", "p", "p"), ("start",), ("odd", "p"), ["start", "p"], ("start", ("m", "p", "q")),
                ("start", ["m", "p"]), ("told", 0), ("thin", ((0, "p"),)), ("thin", ((2, "p"),), start),
                ("thin", ((1, "p"), (0, "p")), start), ("thin", ((0, "q"), (0, "p")), start), ("thin", ((0, "p"),) * 2, start),
                ("thin", [(0, "p")], start), ("thin", ([0, "p"],), start), ("thin", ((True, "p"),), start),
                ("thin", ((0, ["m", "p"]),), start), ("thin", ((0, "p", 0),), start), ("thin", (((), ()),), start),
                ("rule", 2, ("p",), ()), ("rule", True, ("p",), ()), ("rule", 1, ["p"], ()), ("rule", 1, ("p",), []),
                ("rule", 1, ("p", "q"), ()), ("rule", 1, (), ()), ("rule", 1, ("P",), ()), ("rule", 1, ("p",), (start,)),
                ("rule", 0, ("p",), (start,)), ("rule", -1, ("p",), ()), ("rule", 1, (DEEP,), ()), ("rule", 1, (wide(400),), ()),
                ("join", "p", start), ("join", "P", start, start), ("join", ("m",), start, start), ("join", "p", start, start, 0)]:
            for at, whole in ((0, value), (1, ("thin", (), value)), (1, ("join", "p", value, 5)),
                              (2, ("join", "p", start, value)), (3, ("rule", 0, ("q",), (("thin", (), start), value))),
                              (4, ("join", "p", ("join", "q", start, start), value))):
                self.wrong(InvalidProof, {"at": at}, signed_end, signed, whole)
                self.assertIs(signed_holds(signed, (), ("proof", whole)), False)
        self.assertEqual(signed_end(signed, ("rule", 1, (DEEP[1],), ())), ((1, DEEP),))
        self.assertEqual(len(signed_end(Signed(2, [("n", 1), ("m", 2), ("w", 3)], [("n", [1], [])]), (
            "rule", 0, (wide(399),), ()))), 1)

    def test_wrong_books(self):
        for value in JUNK:
            for call, args in ((signed_end, (None,)), (signed_paper, (None,)), (signed_holds, (None, None)),
                               (joinless_proof, (None,))):
                self.wrong(InvalidSigned, {"at": -1}, call, value, *args)


class PapersTest(Wrong, unittest.TestCase):
    def check(self, signed, sheet):
        paper = signed_paper(signed, sheet)
        self.assertTrue(is_all_tuples(paper))
        self.assertIs(signed_holds(signed, sheet, paper), True)
        self.assertIs(signed_holds(signed, sheet, listed(paper)), False)
        lot = closed([saying for sign, saying in sheet])
        if paper[0] == "world":
            self.assertIn(dict(paper[1]), barring(signed, sheet))
            self.assertEqual(tuple(dict(paper[1])), lot)
            return paper
        self.assertEqual(paper[0], "proof")
        self.assertEqual(told(sign_end(signed, paper[1])), sheet)
        self.check_size(paper[1])
        self.assertLessEqual(sayings_in(signed, paper[1]), set(lot))
        for part in all_parts(paper[1]):
            if part[0] == "join":
                self.assertIn(part[1][0] if not isinstance(part[1], str) else None, wanting(signed))
        return paper

    def check_size(self, proof):
        self.assertLessEqual(len(all_parts(proof)), 1999)
        self.assertLessEqual(depth_of(proof), 100)

    def test_just_one_of_both(self):
        found = {}
        for signed, sheet in some_sheets(272, 700, 5, calm=True):
            paper = self.check(signed, sheet)
            self.assertEqual(paper[0] == "world", bool(barring(signed, sheet)))
            joined = paper[0] == "proof" and "join" in [part[0] for part in all_parts(paper[1])]
            self.assertEqual(set(makers_with_joins(signed)), wanting(signed))
            found[paper[0], joined] = found.get((paper[0], joined), 0) + 1
        self.assertGreater(min(found.values()), 5)
        self.assertEqual(len(found), 3)

    def test_least_sheets_with_a_proof(self):
        """Sheets from which no pair can be left out: their proofs are the longest ones."""
        rng = random.Random(273)
        joined = 0
        for signed, sheet in some_sheets(274, 250, 5, calm=True):
            if barring(signed, sheet):
                continue
            for pair in rng.sample(sheet, len(sheet)):
                less = tuple(each for each in sheet if each != pair)
                if closed([saying for sign, saying in less]) and not barring(signed, less):
                    sheet = less
            paper = self.check(signed, sheet)
            self.assertEqual(paper[0], "proof")
            joined += "join" in [part[0] for part in all_parts(paper[1])]
        self.assertGreater(joined, 8)

    def test_largest(self):
        """Four signs, seven rules of up to six premises, five sayings, no pair of the sheet to be left out."""
        rng = random.Random(279)
        inner = ("m", "a", "b")
        tried = 0
        while tried < 30:
            rules = [(rng.choice("mn"), rng.sample(range(4), rng.randint(1, 3)), [
                [(sign, place) for sign in range(4) for place in (1, 2) if rng.random() < dense]
                for _ in range(rng.randint(1, 6))]) for dense in (rng.choice((0.2, 0.4, 0.6)) for _ in range(7))]
            signed = Signed(4, [("m", 2), ("n", 2)], rules)
            if signed_court(signed) != ("calm",):
                continue
            tried += 1
            lot = closed(rng.choice(((("m", inner, ("m", "b", "a")),), (("m", inner, "a"), ("n", inner, "b")), (("n", inner, "c"),),
                                     (("m", ("m", ("m", ("m", "a", "a"), "a"), "a"), "a"),))))
            sheet = told([(sign, saying) for saying in lot for sign in range(4)])
            worlds = all_sign_worlds(signed, lot)
            for pair in rng.sample(sheet, len(sheet)):
                less = tuple(each for each in sheet if each != pair)
                if all(any(world[saying] == sign for sign, saying in less) for world in worlds):
                    sheet = less
            self.assertEqual(self.check(signed, sheet)[0], "proof")
            proof = joinless_proof(signed, sheet)
            if proof is not None:
                self.assertEqual(told(sign_end(signed, proof)), sheet)
                self.check_size(proof)

    def test_edges(self):
        for signed in (JOINED, BUT_ONE, Signed(2, (), ())):
            self.assertEqual(signed_paper(signed, ()), ("world", ()))
            self.assertIsNone(joinless_proof(signed, ()))
        self.assertEqual(signed_paper(JOINED, ((0, WHOLE),))[0], "proof")
        self.assertIsNone(joinless_proof(JOINED, ((0, WHOLE),)))
        self.assertEqual(signed_paper(JOINED, ((1, WHOLE), (2, WHOLE))), ("world", ((WHOLE, 0),)))
        self.assertEqual(joinless_proof(JOINED, ((0, WHOLE), (1, WHOLE))), ("rule", 0, (), ()))
        self.assertEqual(signed_paper(JOINED, [[1, "p"], (0, "p"), (2, "p"), (0, "p")]), ("proof", ("start", "p")))
        whole = ("m", "p")
        sheet = told([(0, "p"), (1, "p"), (2, "p")] + [(sign, whole) for sign in (0, 1, 2)])
        self.assertEqual(self.check(BUT_ONE, sheet)[0], "proof")
        self.assertEqual(self.check(BUT_ONE, sheet[1:])[0], "world")
        self.assertIs(signed_holds(ODDS, (), ("world", ())), True)
        for pair in ((0, ("m", "p")), (1, ("m", "p"))):
            self.assertEqual(joinless_proof(ODDS, (pair,)), ("rule", 0, ("p",), ()) if pair[0] == 0 else None)

    def test_two_signs_are_left_and_right(self):
        for book in random_books(150, 275, rules=5, calm=True):
            signed = plain_signed(book)
            rng = random.Random(str(book.rules))
            lot = closed([random_saying(rng, book, 2)])
            sheet = ([saying for saying in lot if rng.random() < 0.4], [saying for saying in lot if rng.random() < 0.4])
            if len(lot) > 5:
                continue
            signs = told([(0, saying) for saying in sheet[0]] + [(1, saying) for saying in sheet[1]])
            self.assertEqual(self.check(signed, signs)[0], sheet_paper(book, sheet)[0])
            self.assertEqual(wanting(signed), set())
            self.assertEqual(joinless_proof(signed, signs) is None, fewest_uses(book, sheet) is None)

    def test_proofs_without_joins(self):
        found = {True: 0, False: 0}
        for signed, sheet in some_sheets(276, 160, 3, rules=6):
            lot = closed([saying for sign, saying in sheet])
            if signed.count * len(lot) > 9:
                continue
            done = without_joins(signed, lot)
            pairs = [(sign, saying) for saying in lot for sign in range(signed.count)]
            for each in lots(pairs):
                if closed([saying for sign, saying in each]) != lot:
                    continue
                proof = joinless_proof(signed, each)
                self.assertEqual(proof is not None, frozenset(each) in done)
                found[proof is not None] += 1
                if proof is not None:
                    self.assertEqual(sign_end(signed, proof), set(each))
                    self.assertNotIn("join", [part[0] for part in all_parts(proof)])
                    self.assertTrue(is_all_tuples(proof))
                    self.check_size(proof)
        self.assertGreater(min(found.values()), 300)

    def test_wrong(self):
        no_sheets = [None, 5, "p", True, THREE, ("p",), ((0,),), ((0, "p", 0),), ((3, "p"),), ((-1, "p"),), ((True, "p"),),
                     (("p", 0),), ((0, "p"), 5), ((0, ("mid", "p")),), ((0, ("no", "p")),), ((None, "p"),)]
        no_sheets += [((0, "p"), (1, value)) for value in NO_SAYINGS]
        for sheet in no_sheets:
            for call, args in ((signed_paper, ()), (signed_holds, (None,)), (joinless_proof, ())):
                self.wrong(InvalidSheet, {"at": -1}, call, THREE, sheet, *args)
        for signed in (THREE, plain_signed(TONK), ODDS):
            for sheet in ((), ((0, "p"),), ((0, "p"), (1, "p"))):
                self.wrong(Refused, {"at": -1}, signed_paper, signed, sheet)
                self.assertIs(signed_holds(signed, sheet, None), False)
        self.assertEqual(signed_paper(signed=plain_signed(AND), sheet=()), ("world", ()))


class HoldsTest(unittest.TestCase):
    def right(self, signed, sheet, value):
        """Whether the value is a paper, reckoned here."""
        if type(value) is not tuple or len(value) != 2 or not is_all_tuples(value):
            return False
        if value[0] == "proof":
            try:
                signed_end(signed, value[1])
            except InvalidProof:
                return False
            return told(sign_end(signed, value[1])) == sheet
        if value[0] != "world" or type(value[1]) is not tuple:
            return False
        book = Book(signed.makers, ())
        if not all(type(pair) is tuple and len(pair) == 2 and type(pair[1]) is int and fits(book, pair[0])
                   for pair in value[1]):
            return False
        world = dict(value[1])
        if len(world) != len(value[1]) or tuple(world) != closed(list(world)):
            return False
        return (world in all_sign_worlds(signed, tuple(world))
                and all(world.get(saying, sign) != sign for sign, saying in sheet))

    def test_any_values(self):
        for signed, sheet in itertools.chain(some_sheets(278, 60, 3), [(ODDS, ()), (THREE, ()), (JOINED, ((0, WHOLE),))]):
            values = list(JUNK) + [("proof", value) for value in JUNK] + [("world", value) for value in JUNK]
            if signed_court(signed) == ("calm",):
                values += list(changed(signed_paper(signed, sheet)))[:1500]
            values += [("world", tuple(world.items())) for world in barring(signed, sheet)[:5]]
            values += [("world", tuple(dict(world, z=0).items())) for world in barring(signed, sheet)[:2]]
            values += [("proof", joinless_proof(signed, sheet))]
            for value in values:
                self.assertIs(signed_holds(signed, sheet, value), self.right(signed, sheet, value), (signed.rules, sheet, value))

    def test_any_joins_of_any_sayings(self):
        sheet = ((0, "p"), (1, "p"), (2, "p"))
        start = ("start", "p")
        for value in (("join", "p", start, start), ("join", "z", start, start), ("join", WHOLE, start, start),
                      ("join", ("either",), ("rule", 0, (), ()), ("join", WHOLE, ("rule", 1, (), ()), start)),
                      ("join", "q", ("start", "q"), start)):
            self.assertIs(signed_holds(JOINED, sheet, ("proof", value)), told(sign_end(JOINED, value)) == sheet)
        self.assertIs(signed_holds(JOINED, sheet, ("proof", ("join", "z", start, start))), True)

    def test_books_that_are_not_calm(self):
        for signed in (THREE, ODDS, plain_signed(TONK)):
            sheet, proof = signed_nonsense(signed)
            self.assertIs(signed_holds(signed, sheet, ("proof", proof)), True)
        self.assertIs(signed_holds(ODDS, ((0, "p"), (0, ("m", "p"))), ("world", (("p", 1), (("m", "p"), 1)))), False)
        self.assertIs(signed_holds(ODDS, ((1, "p"), (1, ("m", "p"))), ("world", (("p", 0), (("m", "p"), 0)))), True)

    def test_more_sayings_in_a_world(self):
        whole = ("m", "p")
        for world, right in (((("p", 0),), True), ((("p", 0), ("q", 3)), True), ((("p", 0), ("zz", 3)), True),
                             ((("p", 0), (whole, 1)), True), ((("p", 0), (whole, 0)), False), ((("p", 1),), False), ((), False), ((("q", 1),), False),
                             (((whole, 1), ("p", 0)), False), (((whole, 1),), False), ([("p", 0)], False)):
            self.assertIs(signed_holds(BUT_ONE, ((1, "p"),), ("world", world)), right, world)

    def test_no_longer_than_papers_are(self):
        def thinned(times, proof):
            for _ in range(times):
                proof = ("thin", (), proof)
            return proof
        start = ("start", "p")
        sheet = ((0, "p"), (1, "p"))
        signed = Signed(2, (), ())
        self.assertEqual(signed_end(signed, thinned(300, start)), sheet)
        self.assertIs(signed_holds(signed, sheet, ("proof", thinned(99, start))), True)
        self.assertIs(signed_holds(signed, sheet, ("proof", thinned(100, start))), False)

        def of_parts(many):
            if many == 1:
                return start
            half = many // 4 * 2 + 1
            return ("join", "q", of_parts(half), of_parts(many - 1 - half))
        most = of_parts(1999)
        self.assertEqual((len(all_parts(most)), depth_of(most) < 50), (1999, True))
        self.assertIs(signed_holds(signed, sheet, ("proof", most)), True)
        self.assertIs(signed_holds(signed, sheet, ("proof", ("thin", (), most))), False)
        self.assertEqual(signed_end(signed, ("thin", (), most)), sheet)


if __name__ == "__main__":
    unittest.main()
