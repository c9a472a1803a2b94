"""[55], and what [52] to [54] say over it: rows that need joins, rules to be put in, the fewest rules, books apart."""

import itertools
import random
import unittest

from saymakers.errors import InvalidSigned, Refused
from saymakers.signproofs import joinless_proof, signed_holds, signed_paper
from saymakers.signrules import added_rules, few_rules, joins_paper, signed_apart
from saymakers.signs import Signed, plain_signed, signed_court, signed_table
from tests.test_signproofs import BUT_ONE, JOINED, ODDS, told, wanting, wide_signed
from tests.test_signs import awake, common, random_signed, sign_end
from tests.tools import (
    AND, EMPTY, JUNK, LOGIC, TONK, Wrong, is_all_tuples, is_same, lots, rows, words_of)

LETTERS = "abcd"


def table_of(signed, name):
    """The table of the maker by rows, reckoned here."""
    return {row: tuple(sorted(common(signed, awake(signed, name, row)))) for row in rows(dict(signed.makers)[name], signed.count)}


def tables_of(signed):
    """All tables."""
    return {name: table_of(signed, name) for name, places in signed.makers}


def needing(signed):
    """All (maker, row) that need joins, ascending, reckoned here."""
    found = []
    for name, places in signed.makers:
        for row, table in table_of(signed, name).items():
            own = [signed.rules[number][1] for number in awake(signed, name, row)]
            if len(table) < signed.count and table not in own:
                found.append((name, row))
    return found


def refusal(signed, name, row, signs):
    """The refusal of the row with the pairs of its saying with these signs."""
    whole = (name,) + tuple(LETTERS[sign] for sign in row)
    return told([(sign, LETTERS[own]) for own in set(row) for sign in range(signed.count) if sign != own]
                + [(sign, whole) for sign in signs])


def is_calm(signed):
    """Whether no row is at odds."""
    return all(table for tables in tables_of(signed).values() for table in tables.values())


def calm_books(seed, many, **more):
    """So many calm books of signs, many of them needing joins."""
    rng = random.Random(seed)
    while many:
        signed = wide_signed(rng) if rng.random() < 0.6 else random_signed(rng, **more)
        if is_calm(signed):
            many -= 1
            yield signed


def fewest_lots(count, tables):
    """How many lots are needed to tell all the tables, tried one by one."""
    every = [lot for lot in lots(range(count)) if 0 < len(lot) < count]
    for many in range(count + 1):
        for chosen in itertools.combinations(every, many):
            if all(set(range(count)).intersection(*[lot for lot in chosen if set(table) <= set(lot)]) == set(table)
                   for table in tables):
                return many
    return None


def all_books(count, name, places, rules):
    """All books of signs of one maker with at most so many rules, each by its lot and the rows that wake it."""
    every = rows(places, count)
    own = []
    for lot in lots(range(count)):
        for there in lots(every) if 0 < len(lot) < count else ():
            own.append((name, lot, [[(sign, k) for k, truth in enumerate(row, 1) for sign in range(count) if sign != truth]
                                    for row in every if row not in there]))
    for chosen in lots(own, rules):
        yield Signed(count, [(name, places)], chosen)


class JoinsTest(Wrong, unittest.TestCase):
    def test_papers(self):
        met = {}
        for signed in calm_books(550, 400):
            paper = joins_paper(signed)
            self.assertTrue(is_all_tuples(paper))
            found = needing(signed)
            self.assertEqual({name for name, row in found}, wanting(signed))
            met[bool(found)] = met.get(bool(found), 0) + 1
            if not found:
                self.assertEqual(paper, ("without",))
                continue
            name, row = found[0]
            sheet = refusal(signed, name, row, table_of(signed, name)[row])
            self.assertTrue(is_same(paper, ("needed", name, row, sheet)), (paper, sheet))
            # The sheet has a proof, and none without joins.
            proof = signed_paper(signed, sheet)
            self.assertEqual(proof[0], "proof")
            self.assertIn("join", words_of(proof[1]))
            self.assertEqual(sign_end(signed, proof[1]), set(sheet))
            self.assertIsNone(joinless_proof(signed, sheet))
        self.assertGreater(min(met.values()), 50)

    def test_all_joins_can_be_left_out_exactly_if_no_row_needs_them(self):
        for signed in calm_books(551, 150):
            if needing(signed):
                continue
            for name, places in signed.makers:
                for row in rows(places, signed.count)[:20]:
                    sheet = refusal(signed, name, row, table_of(signed, name)[row])
                    self.assertIsNotNone(joinless_proof(signed, sheet))

    def test_edges(self):
        self.assertEqual(joins_paper(JOINED), ("needed", "either", (), ((0, ("either",)),)))
        self.assertEqual(joins_paper(Signed(2, (), ())), ("without",))
        self.assertEqual(joins_paper(Signed(4, [("m", 2)], ())), ("without",))
        self.assertEqual(joins_paper(BUT_ONE), ("without",))
        for book in (AND, LOGIC, EMPTY):
            # With two signs no row needs joins.
            self.assertEqual(joins_paper(plain_signed(book)), ("without",))
            self.assertEqual(added_rules(plain_signed(book)), ())

    def test_wrong(self):
        for call in (joins_paper, added_rules, few_rules):
            for value in JUNK + (AND,):
                self.wrong(InvalidSigned, {"at": -1}, call, value)
            for signed in (ODDS, plain_signed(TONK)):
                self.wrong(Refused, {"at": -1}, call, signed)


class AddedTest(unittest.TestCase):
    def test_added_rules(self):
        met = 0
        for signed in calm_books(552, 400):
            added = added_rules(signed)
            self.assertTrue(is_all_tuples(added))
            greater = Signed(signed.count, signed.makers, signed.rules + added)
            self.assertEqual(tables_of(greater), tables_of(signed))
            self.assertEqual(needing(greater), [])
            self.assertEqual(joins_paper(greater), ("without",))
            # In order, and new; a rule has one lot, so that there are no fewer than unlike lots that are lacking.
            self.assertEqual(Signed(signed.count, signed.makers, added).rules, added)
            self.assertFalse(set(added) & set(signed.rules))
            lacking = {(name, table_of(signed, name)[row]) for name, row in needing(signed)}
            self.assertEqual(len(added), len(lacking))
            met += len(added) > 1
            for name, row in needing(signed):
                sheet = refusal(signed, name, row, table_of(signed, name)[row])
                self.assertIsNotNone(joinless_proof(greater, sheet))
        self.assertGreater(met, 20)

    def test_no_fewer_rules_do(self):
        # All rules that there are, by their lots and the rows that wake them: one less than told never does.
        met = {}
        for signed in calm_books(553, 900):
            if len(signed.makers) > 1 or signed.makers[0][1] > 1 or len(added_rules(signed)) not in (1, 2):
                continue
            name, places = signed.makers[0]
            fewer = len(added_rules(signed)) - 1
            if met.get((fewer, places), 0) > 6:
                continue
            met[fewer, places] = met.get((fewer, places), 0) + 1
            for other in all_books(signed.count, name, places, fewer):
                greater = Signed(signed.count, signed.makers, signed.rules + other.rules)
                self.assertFalse(len(other.rules) == fewer and not needing(greater) and tables_of(greater) == tables_of(signed))
        self.assertLessEqual({(0, 0), (0, 1), (1, 1)}, set(met))

    def test_edges(self):
        self.assertEqual(added_rules(JOINED), (("either", (0,), ()),))
        self.assertEqual(added_rules(BUT_ONE), ())


class FewTest(unittest.TestCase):
    def test_few_rules(self):
        met = {}
        for signed in calm_books(554, 400):
            few = few_rules(signed)
            self.assertIsInstance(few, Signed)
            self.assertEqual((few.count, few.makers), (signed.count, signed.makers))
            self.assertEqual(tables_of(few), tables_of(signed))
            for name, places in signed.makers:
                many = len([rule for rule in few.rules if rule[0] == name])
                self.assertEqual(many, fewest_lots(signed.count, set(table_of(signed, name).values())))
                self.assertLessEqual(many, min(signed.count, len([rule for rule in signed.rules if rule[0] == name])))
                met[many] = True
        self.assertLessEqual({0, 1, 2, 3}, set(met))

    def test_no_book_has_fewer(self):
        # All books of a maker of one place and two signs, of none and three signs.
        for count, places, most in ((2, 1, 3), (3, 0, 3)):
            best = {}
            every = [signed for signed in all_books(count, "m", places, most) if is_calm(signed)]
            for signed in every:
                key = tuple(table_of(signed, "m").items())
                best[key] = min(best.get(key, 9), len(signed.rules))
            for signed in every:
                self.assertEqual(len(few_rules(signed).rules), best[tuple(table_of(signed, "m").items())])

    def test_without_joins_as_many_as_unlike_lots(self):
        for signed in calm_books(555, 150):
            few = few_rules(signed)
            whole = Signed(few.count, few.makers, few.rules + added_rules(few))
            self.assertEqual(joins_paper(whole), ("without",))
            for name, places in signed.makers:
                unlike = {table for table in table_of(signed, name).values() if len(table) < signed.count}
                own = {rule[1] for rule in whole.rules if rule[0] == name}
                self.assertLessEqual(unlike, own)

    def test_edges(self):
        self.assertEqual(few_rules(Signed(3, (), ())), Signed(3, (), ()))
        self.assertEqual(few_rules(Signed(3, [("m", 2)], ())).rules, ())
        self.assertEqual(len(few_rules(JOINED).rules), 1)
        self.assertEqual(few_rules(JOINED).rules[0][1], (0,))
        four = Signed(4, [("m", 1)], [("m", [sign], [[(sign, 1)]]) for sign in range(4)])
        self.assertEqual(len(few_rules(four).rules), 4)

    def test_largest(self):
        rng = random.Random(556)
        for _ in range(10):
            pairs = list(itertools.product(range(4), (1, 2)))
            signed = Signed(4, [("m", 2), ("n", 2)], [
                (name, rng.sample(range(4), 3), [rng.sample(pairs, 3) for _ in range(6)]) for name in "mmmmnnn"])
            if not is_calm(signed):
                continue
            self.assertEqual(tables_of(few_rules(signed)), tables_of(signed))
            greater = Signed(4, signed.makers, signed.rules + added_rules(signed))
            self.assertEqual(tables_of(greater), tables_of(signed))
            self.assertEqual(joins_paper(greater), ("without",))
        wide = Signed(4, [("m", 3)], [("m", [0, 1], []), ("m", [0, 2], [[(0, 1)]]), ("m", [0, 3], [[(1, 2)], [(2, 3)]])])
        self.assertEqual(tables_of(few_rules(wide)), tables_of(wide))
        self.assertEqual(tables_of(Signed(4, wide.makers, wide.rules + added_rules(wide))), tables_of(wide))
        self.assertEqual(joins_paper(wide)[:2], ("needed", "m"))


class ApartTest(Wrong, unittest.TestCase):
    def test_apart(self):
        rng = random.Random(557)
        met = {}
        for signed in calm_books(558, 400):
            other = Signed(signed.count, signed.makers, [rule for rule in signed.rules if rng.random() < 0.7])
            if rng.random() < 0.3:
                other = Signed(signed.count, signed.makers, other.rules + tuple(
                    rule for rule in wide_signed(rng).rules if rule[0] in dict(signed.makers) and all(
                        sign < signed.count and place <= dict(signed.makers)[rule[0]] for premise in rule[2] for sign, place in premise)
                    and max(rule[1]) < signed.count and len(rule[1]) < signed.count))
            if not is_calm(other):
                continue
            for one, two in ((signed, other), (other, signed)):
                apart = signed_apart(one, two)
                met[apart if apart is None else apart[0]] = met.get(apart if apart is None else apart[0], 0) + 1
                self.assertEqual(apart is None, tables_of(one) == tables_of(two))
                if apart is None:
                    continue
                which, sheet = apart
                self.assertTrue(is_all_tuples(apart) and type(which) is int)
                self.assertEqual(sheet, told(sheet))
                books = (one, two)
                self.assertEqual(signed_paper(books[which], sheet)[0], "proof")
                self.assertEqual(signed_paper(books[1 - which], sheet)[0], "world")
                every = {part for sign, saying in sheet for part in ([saying] if isinstance(saying, str) else [saying, *saying[1:]])}
                self.assertLessEqual(len(every), 8)
        self.assertGreater(min(met.values()), 30)
        self.assertEqual(len(met), 3)

    def test_same_tables_give_the_same_sheets(self):
        rng = random.Random(559)
        for signed in calm_books(560, 100):
            few = few_rules(signed)
            self.assertIsNone(signed_apart(signed, few))
            for name, places in signed.makers:
                row = rng.choice(rows(places, signed.count))
                for signs in lots(range(signed.count)):
                    sheet = refusal(signed, name, row, signs)
                    paper = signed_paper(few, sheet)
                    self.assertEqual(signed_paper(signed, sheet)[0], paper[0])
                    self.assertIs(signed_holds(few, sheet, paper), True)

    def test_edges(self):
        bare = Signed(3, JOINED.makers, ())
        self.assertEqual(signed_apart(JOINED, bare)[0], 0)
        self.assertEqual(signed_apart(bare, JOINED)[0], 1)
        self.assertIsNone(signed_apart(bare, bare))
        # Neither table lies within the other.
        one, other = [Signed(3, [("m", 0)], [("m", lot, [])]) for lot in ([0, 1], [1, 2])]
        for which, sheet in (signed_apart(one, other), signed_apart(other, one)):
            self.assertIn(which, (0, 1))
        self.assertEqual(signed_table(one, "m"), ((0, 1),))

    def test_wrong(self):
        for value in JUNK + (AND,):
            self.wrong(InvalidSigned, {"at": 0}, signed_apart, value, 5)
            self.wrong(InvalidSigned, {"at": 0}, signed_apart, value, ODDS)
            self.wrong(InvalidSigned, {"at": 1}, signed_apart, ODDS, value)
        self.assertNotEqual(signed_court(ODDS), ("calm",))
        self.wrong(Refused, {"at": 0}, signed_apart, ODDS, ODDS)
        self.wrong(Refused, {"at": 0}, signed_apart, ODDS, JOINED)
        self.wrong(Refused, {"at": 1}, signed_apart, JOINED, ODDS)
        self.wrong(Refused, {"at": -1}, signed_apart, JOINED, BUT_ONE)
        self.wrong(Refused, {"at": -1}, signed_apart, JOINED, Signed(3, (), ()))
        self.wrong(Refused, {"at": -1}, signed_apart, JOINED, Signed(4, JOINED.makers, ()))


if __name__ == "__main__":
    unittest.main()
