"""[23] to [26]: what follows from facts, reasons, rules as facts."""

import itertools
import random
import unittest

from saymakers.books import Book, put_rules, read_book, without_makers
from saymakers.errors import InvalidBook, InvalidFacts, InvalidSaying, InvalidSheet, InvalidSize, NotCalm
from saymakers.facts import (
    break_lots, follow_holds, follow_paper, joined_proof, peace_lots, reason_lots, rule_sheets, taken_sheets,
    unfolded_sheets)
from saymakers.judge import sheet_paper
from saymakers.proofs import need_proof
from saymakers.sayings import sheet_text
from tests.some_proofs import random_saying
from tests.test_judge import NO_SHEETS
from tests.test_middles import HARD, follows
from tests.test_sayings import NO_SAYINGS
from tests.test_worlds import closed, right_world
from tests.tools import (
    AND, EMPTY, JUNK, LOGIC, TONK, Wrong, all_parts, all_worlds, changed, end_sheet, is_all_tuples, is_kept, listed,
    lots, random_book, sheet_of, words_of)

CHAIN = ((("p",), ("q",)), (("q",), ("r",)), ((), ("r",)))
GOAL = (("p",), ("r",))
NO_FACTS = ((None, -1), (5, -1), ("|", -1), (EMPTY, -1), (True, -1), ([5], 0), ([((), ()), ((), ("Q",))], 1),
            ([((), ()), ((), (("or", "p", "q"),)), 5], 1), ([((), (("and", "p"),))], 0), ([((), (), ())], 0))


def random_sheet(rng, lot, most=3):
    """Some sheet over the lot."""
    sides = ([], [])
    for saying in rng.sample(lot, min(len(lot), rng.randint(0, most))):
        sides[rng.random() < 0.5].append(saying)
        if rng.random() < 0.05:
            sides[0].append(saying)
    return sheet_of(*sides)


def some_cases(seed, many, facts=4, most=7):
    """(book, facts, sheet) of few parts together; every other sheets follow."""
    rng = random.Random(seed)
    wanted = True
    while many:
        book = rng.choice((LOGIC, random_book(rng, rules=8, calm=True), random_book(rng, [("m", 2)], rules=8, calm=True)))
        lot = list(closed([random_saying(rng, book, 2) for _ in range(rng.randint(1, 3))] + ["p"]))
        if len(lot) > most:
            continue
        told = [random_sheet(rng, lot) for _ in range(rng.randint(0, facts))]
        sheet = random_sheet(rng, lot)
        if told and rng.random() < 0.1:
            told.append(told[0])
        if follows(book, told, sheet) == wanted or rng.random() < 0.02:
            many -= 1
            wanted = not wanted
            yield book, told, sheet


def shrunk(book, facts, sheet):
    """The sheet without what it follows without."""
    for saying in sheet[0] + sheet[1]:
        for side in (0, 1):
            less = tuple(tuple(each for each in half if at != side or each != saying) for at, half in enumerate(sheet))
            if less != sheet and follows(book, facts, less):
                sheet = less
    return sheet


def put_other(sheet, fact):
    """The sheets of the fact's trees, reckoned here."""
    left, right = sheet
    return ([sheet_of(left, right + (saying,)) for saying in fact[0]]
            + [sheet_of(left + (saying,), right) for saying in fact[1]])


def right_tree(book, facts, sheet, tree, used=()):
    """Whether the value is a tree of the sheet that has no fact twice on a way, reckoned here."""
    if type(tree) is not tuple or not tree:
        return False
    if tree[0] == "plain" and len(tree) == 2:
        try:
            need_proof(book, tree[1])
        except Exception:
            return False
        return end_sheet(book, tree[1]) == sheet and "join" not in words_of(tree[1])
    if tree[0] != "fact" or len(tree) != 3 or type(tree[1]) is not int or not 0 <= tree[1] < len(facts):
        return False
    sheets = put_other(sheet, facts[tree[1]])
    return (tree[1] not in used and type(tree[2]) is tuple and len(tree[2]) == len(sheets)
            and all(right_tree(book, facts, each, kid, used + (tree[1],)) for each, kid in zip(sheets, tree[2])))


def right_paper(book, facts, sheet, value):
    """Whether the value is a paper, reckoned here."""
    if type(value) is not tuple or len(value) != 2 or not is_all_tuples(value):
        return False
    if value[0] == "tree":
        return right_tree(book, facts, sheet, value[1])
    if value[0] != "world" or not right_world(book, value[1]):
        return False
    world = dict(value[1])
    every = {saying for each in list(facts) + [sheet] for side in each for saying in side}
    return every <= set(world) and all(is_kept(world, *fact) for fact in facts) and not is_kept(world, *sheet)


class FollowTest(Wrong, unittest.TestCase):
    def test_just_one_of_both(self):
        found = {}
        for book, facts, sheet in some_cases(301, 400):
            if follows(book, facts, sheet):
                sheet = shrunk(book, facts, sheet)
            paper = follow_paper(book, facts, sheet)
            self.assertTrue(is_all_tuples(paper))
            self.assertTrue(right_paper(book, facts, sheet, paper), (book.rules, facts, sheet, paper))
            self.assertIs(follow_holds(book, facts, sheet, paper), True)
            self.assertIs(follow_holds(book, listed(facts), listed(sheet), paper), True)
            self.assertEqual(paper[0], "tree" if follows(book, facts, sheet) else "world")
            if paper[0] == "world":
                every = closed([saying for each in facts + [sheet] for side in each for saying in side])
                self.assertEqual(tuple(dict(paper[1])), every)
            found[paper[0], paper[1][:1]] = found.get((paper[0], paper[1][:1]), 0) + 1
        self.assertGreater(found["tree", ("fact",)], 60)
        self.assertGreater(found["tree", ("plain",)], 10)

    def test_edges(self):
        self.assertEqual(follow_paper(EMPTY, (), ((), ())), ("world", ()))
        self.assertEqual(follow_paper(EMPTY, [((), ())], ((), ())), ("tree", ("fact", 0, ())))
        self.assertEqual(follow_paper(EMPTY, [((), ())], (("p",), ())), ("tree", ("fact", 0, ())))
        self.assertEqual(follow_paper(EMPTY, (), (("p",), ("p",))), ("tree", ("plain", ("start", "p"))))
        self.assertEqual(follow_paper(EMPTY, (), (("p",), ())), ("world", (("p", 1),)))
        self.assertEqual(follow_paper(EMPTY, [(("p",), ("p",))], ((), ("p",))), ("world", (("p", 0),)))
        self.assertEqual(follow_paper(book=EMPTY, facts=[(["q"], [])], sheet=([], ["p"])),
                         ("world", (("p", 0), ("q", 0))))
        whole = ("and", "p", "q")
        paper = follow_paper(AND, [((), ("p",)), ((), ("q",))], ((), (whole,)))
        self.assertTrue(right_tree(AND, (((), ("p",)), ((), ("q",))), ((), (whole,)), paper[1]))

    def test_trees(self):
        start = ("plain", ("start", "p"))
        fact = ((), ("p",))
        thin = ("plain", ("thin", (("p",), ("p", "q")), ("start", "p")))
        for facts, sheet, tree, right in (
                ((fact,), fact, ("fact", 0, (start,)), True), ((fact,), fact, start, False),
                ((fact,), fact, ("fact", 0, ()), False), ((fact,), fact, ("fact", 0, (start, start)), False),
                ((fact,), fact, ("fact", 0, [start]), False), ((fact,), fact, ("fact", False, (start,)), False),
                ((fact,), fact, ("fact", 1, (start,)), False), ((fact,), fact, ("fact", -1, (start,)), False),
                ((fact,), ((), ("p", "q")), ("fact", 0, (start,)), False),
                ((fact,), ((), ("p", "q")), ("fact", 0, (thin,)), True),
                # A fact may come again on another way, and an alike one on the same.
                ((fact,), fact, ("fact", 0, (("fact", 0, (start,)),)), False),
                ((fact, fact), fact, ("fact", 0, (("fact", 1, (start,)),)), True),
                ((fact, fact), fact, ("fact", 1, (("fact", 0, (start,)),)), True),
                (((("q",), ("q",)), fact), fact, ("fact", 0, (("fact", 1, (thin,)), ("fact", 1, (
                    ("plain", ("thin", (("q",), ()), ("start", "p"))),)))), True),
                (((("p",), ()),), (("p",), ("p",)), ("fact", 0, (start,)), True),
                (((("q", "p"), ("r",)),), (("p", "q"), ("r",)), ("fact", 0, tuple(
                    ("plain", ("thin", sheet, ("start", letter))) for letter, sheet in (
                        ("p", (("p", "q"), ("p", "r"))), ("q", (("p", "q"), ("q", "r"))), ("r", (("p", "q", "r"), ("r",))))
                    )), True),
                (((("q", "p"), ("r",)),), (("p", "q"), ("r",)), ("fact", 0, tuple(
                    ("plain", ("thin", sheet, ("start", letter))) for letter, sheet in (
                        ("q", (("p", "q"), ("q", "r"))), ("p", (("p", "q"), ("p", "r"))), ("r", (("p", "q", "r"), ("r",))))
                    )), False),
                ((fact,), (("p",), ("p",)), ("plain", ("join", "p", ("start", "p"), ("start", "p"))), False),
                ((fact,), fact, ("plain", ("told", 0)), False), ((fact,), fact, ("plain", start, start), False)):
            self.assertIs(follow_holds(EMPTY, facts, sheet, ("tree", tree)), right, tree)
            self.assertIs(right_tree(EMPTY, [sheet_of(*fact) for fact in facts], sheet, tree), right)

    def test_any_values(self):
        values = list(JUNK) + [(word, value) for word in ("tree", "world") for value in JUNK] + [
            ("tree", ("fact", 0, value)) for value in JUNK] + [("tree", ("plain", value)) for value in JUNK]
        for book, facts, sheet in some_cases(302, 50, facts=2, most=5):
            paper = follow_paper(book, facts, sheet)
            for value in values + list(changed(paper))[:800] + [listed(paper)]:
                self.assertIs(follow_holds(book, facts, sheet, value), right_paper(book, facts, sheet, value),
                              (book.rules, facts, sheet, value))

    def test_worlds_may_have_more_sayings(self):
        for world, right in ((((("p", 1), ("q", 0))), True), ((("p", 1), ("q", 0), ("r", 1)), True), ((("p", 1),), False),
                             ((("p", 1), ("q", 1)), False), ((("p", 0), ("q", 0)), False),
                             ((("p", 1), ("q", 0), (("and", "p", "q"), 0)), True),
                             ((("p", 1), ("q", 0), (("and", "p", "q"), 1)), False)):
            self.assertIs(follow_holds(AND, [(("q",), ())], (("p",), ()), ("world", world)), right, world)

    def test_makers_that_stand_in_no_sheet(self):
        rng = random.Random(303)
        for book, facts, sheet in some_cases(304, 150):
            said = {saying[0] for each in facts + [sheet] for side in each for saying in closed(side)
                    if not isinstance(saying, str)}
            less = without_makers(book, [name for name, places in book.makers if name not in said])
            more = put_rules(Book(book.makers + (("z", 1),), book.rules), [("z", "right", [((rng.randint(0, 1),) * 0, (1,))])])
            for other in (less, more):
                self.assertEqual(follow_paper(other, facts, sheet)[0], follow_paper(book, facts, sheet)[0])

    def test_largest(self):
        letters = list("abcdefghi")
        rng = random.Random(305)
        for _ in range(20):
            facts = []
            for _ in range(6):
                some = rng.sample(letters, 6)
                cut = rng.randint(0, 6)
                facts.append(sheet_of(some[:cut], some[cut:]))
            sheet = sheet_of(letters[:3], letters[3:5])
            paper = follow_paper(EMPTY, facts, sheet)
            self.assertIs(follow_holds(EMPTY, facts, sheet, paper), True)
        # All worlds of five letters are barred one by one but for those that the sheet bars.
        five = letters[:5]
        facts = [(tuple(a for a, sign in zip(five, row) if sign), tuple(a for a, sign in zip(five, row) if not sign))
                 for row in itertools.product((0, 1), repeat=5)]
        for sheet in (((), ()), ((), ("i",)), (("a",), ("b",))):
            paper = follow_paper(EMPTY, facts, sheet)
            self.assertTrue(right_paper(EMPTY, facts, sheet, paper))
            self.assertEqual(end_sheet(EMPTY, joined_proof(EMPTY, facts, sheet), facts), sheet)
        self.assertEqual(follow_paper(EMPTY, facts[1:], ((), ()))[0], "world")

    def test_wrong(self):
        for call, more in ((follow_paper, ()), (follow_holds, (None,)), (joined_proof, ())):
            for value in JUNK:
                if not isinstance(value, Book):
                    self.wrong(InvalidBook, {"at": -1}, call, value, None, None, *more)
            for facts, at in NO_FACTS:
                self.wrong(InvalidFacts, {"at": at}, call, HARD, facts, None, *more)
            self.wrong(InvalidFacts, {"at": -1}, call, HARD, [((), ("p",))] * 40 + [5], None, *more)
            for sheet in NO_SHEETS:
                self.wrong(InvalidSheet, {"at": -1}, call, HARD, [((), ("p",))] * 40, sheet, *more)
            letters = tuple("abcdefghijklmno")
            self.wrong(InvalidSize, {"word": "sayings"}, call, HARD, [(letters[:8], letters[8:14])], ((), ("o",)), *more)
            self.wrong(InvalidSize, {"word": "sayings"}, call, HARD, (), (letters, letters), *more)
            self.wrong(InvalidSize, {"word": "sayings"}, call, HARD, [((), (("so", ("so", "o")),))], (letters[:12], ()), *more)
            self.wrong(NotCalm, {"right": 3, "left": 2, "row": (1,)}, call, HARD, [(letters[:8], letters[8:14])],
                       ((), ()), *more)
            call(AND, [(letters[:8], letters[8:14])] * 40, ((), ("a",)), *more)


class TakenTest(Wrong, unittest.TestCase):
    def test_taken_sheets(self):
        self.assertEqual(taken_sheets((("s",), ("r",)), (("q", "p"), ("a",))),
                         ((("s",), ("p", "r")), (("s",), ("q", "r")), (("a", "s"), ("r",))))
        self.assertEqual(taken_sheets(sheet=([], []), fact=([], [])), ())
        self.assertEqual(taken_sheets((("p",), ("p",)), (("p",), ("p",))), ((("p",), ("p",)),) * 2)
        for value in (None, 5, "|", (), ((), (), ()), ((), ("P",)), EMPTY, (("p",), 5)):
            self.wrong(InvalidSheet, {"at": 0}, taken_sheets, value, value)
            self.wrong(InvalidSheet, {"at": 1}, taken_sheets, ((), ()), value)

    def test_one_fact_more(self):
        for book, facts, sheet in some_cases(306, 200):
            for at, fact in enumerate(facts):
                rest = facts[:at] + facts[at + 1:]
                self.assertEqual(taken_sheets(sheet, fact), tuple(put_other(sheet, fact)))
                self.assertEqual(follows(book, facts, sheet), all(follows(book, rest, each)
                                                                  for each in taken_sheets(sheet, fact)))

    def unfolded(self, facts, sheet):
        """What facts unfold to, reckoned here."""
        ways = []
        for choice in itertools.product(*[[(0, saying) for saying in fact[0]] + [(1, saying) for saying in fact[1]]
                                          for fact in facts]):
            ways.append(sheet_of(sheet[0] + tuple(saying for right, saying in choice if right),
                                 sheet[1] + tuple(saying for right, saying in choice if not right)))
        ways = {each for each in ways if not set(each[0]) & set(each[1])}
        least = [each for each in ways if not any(
            other != each and set(other[0]) <= set(each[0]) and set(other[1]) <= set(each[1]) for other in ways)]
        return tuple(sorted(least, key=sheet_text))

    def test_unfolded_sheets(self):
        many = 0
        for book, facts, sheet in some_cases(307, 300, facts=5):
            sheets = unfolded_sheets(facts, sheet)
            self.assertEqual(sheets, self.unfolded(facts, sheet))
            self.assertEqual(unfolded_sheets(listed(facts), listed(sheet)), sheets)
            self.assertEqual(follows(book, facts, sheet), all(sheet_paper(book, each)[0] == "proof" for each in sheets))
            many += len(sheets) > 2
        self.assertGreater(many, 10)
        self.assertEqual(unfolded_sheets((), ((), ())), (((), ()),))
        self.assertEqual(unfolded_sheets((), (("p",), ("p",))), ())
        self.assertEqual(unfolded_sheets([((), ())], (("p",), ())), ())
        self.assertEqual(unfolded_sheets([(("p",), ("p",))], (("p",), ())), ((("p",), ()),))
        self.assertEqual(unfolded_sheets(facts=[((), (("zz", "p"), "p"))] * 2, sheet=((), ())),
                         ((("p",), ()), ((("zz", "p"),), ())))

    def test_unfolded_largest(self):
        names = [one + other for one in "abcde" for other in "abcdef"]
        facts = [(tuple(names[at:at + 3]), tuple(names[at + 3:at + 6])) for at in range(0, 30, 6)]
        self.assertEqual(len(unfolded_sheets(facts, ((), ()))), 6 ** 5)

    def test_unfolded_wrong(self):
        for facts, at in ((None, -1), (5, -1), ("|", -1), (EMPTY, -1), ([5], 0), ([((), ()), ((), ("Q",))], 1),
                          ([((), ("p",))] * 41, -1), ([((), (), ())], 0)):
            self.wrong(InvalidFacts, {"at": at}, unfolded_sheets, facts, None)
        for sheet in (None, 5, "|", (), ((), (), ()), ((), ("P",)), EMPTY):
            self.wrong(InvalidSheet, {"at": -1}, unfolded_sheets, [((), ("p",))] * 40, sheet)
            self.wrong(InvalidSheet, {"at": -1}, unfolded_sheets, [((), ())], sheet)


class JoinedTest(unittest.TestCase):
    def check(self, book, facts, sheet):
        proof = joined_proof(book, facts, sheet)
        if not follows(book, facts, sheet):
            self.assertIsNone(proof)
            return None
        need_proof(book, proof, facts)
        self.assertTrue(is_all_tuples(proof))
        self.assertEqual(end_sheet(book, proof, facts), sheet)
        told = {saying for fact in facts for side in fact for saying in side}
        for part in all_parts(proof):
            if part[0] == "join":
                self.assertIn(part[1], told)
            if part[0] == "rule":
                self.assertFalse({"join", "told"} & set(words_of(part)))
        return proof

    def test_joined_proofs(self):
        found = 0
        for book, facts, sheet in some_cases(308, 1500, most=6):
            proof = self.check(book, facts, sheet)
            bare = Book(book.makers, ())
            if proof is None or follows(book, (), sheet) or follows(bare, facts, sheet):
                continue
            # Neither rules nor facts alone do.
            proof = self.check(book, facts, shrunk(book, facts, sheet))
            self.assertIn("rule", words_of(proof))
            found += "join" in words_of(proof)
        self.assertGreater(found, 8)

    def test_edges(self):
        self.assertEqual(self.check(EMPTY, [((), ())], ((), ())), ("told", 0))
        self.assertEqual(self.check(EMPTY, [((), ())], (("p",), ())), ("thin", (("p",), ()), ("told", 0)))
        self.assertIsNone(self.check(EMPTY, (), ((), ())))
        self.check(EMPTY, CHAIN[:2], GOAL)
        self.check(EMPTY, [(("p",), ("p",)), ((), ("p",))], ((), ("p",)))
        self.check(EMPTY, [(("p",), ()), ((), ("p",))], ((), ()))
        self.check(LOGIC, [((), (("if", "p", "q"),)), ((), (("if", "q", "r"),))], ((), (("if", "p", "r"),)))

    def test_many_facts_one_on_another(self):
        """The proofs must stay within the bounds of [14]."""
        letters = tuple("abcdefghijklmn")
        facts = [(letters[:at], (letters[at],)) for at in range(14)] + [(letters, ())]
        self.check(EMPTY, facts, ((), ()))
        facts = [(letters[:at], letters[at:at + 3]) for at in range(14)] + [
            (letters[at:at + 2], ()) for at in range(13)] + [(letters[:1], letters[1:3]), (("c",), ("a", "d"))]
        self.check(EMPTY, facts, ((), ()))


class ReasonsTest(Wrong, unittest.TestCase):
    def some_reasons(self, seed, many):
        rng = random.Random(seed)
        for book, facts, sheet in some_cases(seed, many, facts=5, most=5):
            lot = closed([saying for each in facts + [sheet] for side in each for saying in side]) or ("p",)
            yield book, facts, [sheet] + [random_sheet(rng, list(lot)) for _ in range(rng.choice((0, 0, 1, 3)))]

    def test_reasons(self):
        found = 0
        for book, facts, goals in self.some_reasons(309, 200):
            enough = []
            for lot in lots(range(len(facts))):
                if all(follows(book, [facts[at] for at in lot], goal) for goal in goals):
                    if not any(set(less) <= set(lot) for less in enough):
                        enough.append(lot)
            self.assertEqual(reason_lots(book, facts, goals), tuple(sorted(enough)))
            self.assertEqual(reason_lots(book, listed(facts), listed(goals)), tuple(sorted(enough)))
            found += len(enough) > 1
        self.assertGreater(found, 10)

    def broken_lots(self, book, facts, goals):
        """The least lots of facts that worlds against a goal break, with the first such worlds, reckoned here."""
        every = closed([saying for each in list(facts) + list(goals) for side in each for saying in side])
        firsts = {}
        for world in all_worlds(book, every):
            if not all(is_kept(world, *goal) for goal in goals):
                lot = tuple(at for at, fact in enumerate(facts) if not is_kept(world, *fact))
                firsts.setdefault(lot, tuple(world.items()))
        least = [lot for lot in firsts if not any(set(other) < set(lot) for other in firsts)]
        return tuple((lot, firsts[lot]) for lot in sorted(least))

    def test_breaks_and_what_meets_them(self):
        for book, facts, goals in self.some_reasons(310, 200):
            broken = break_lots(book, facts, goals)
            self.assertEqual(broken, self.broken_lots(book, facts, goals))
            reasons = reason_lots(book, facts, goals)
            for lot in lots(range(len(facts))):
                suffices = all(follows(book, [facts[at] for at in lot], goal) for goal in goals)
                self.assertEqual(suffices, all(set(lot) & set(other) for other, world in broken))
            meets = [lot for lot in lots(range(len(facts))) if all(set(lot) & set(reason) for reason in reasons)]
            least = [lot for lot in meets if not any(set(other) < set(lot) for other in meets)]
            self.assertEqual(sorted(least), [lot for lot, world in broken])

    def test_peace(self):
        for book, facts, goals in self.some_reasons(311, 200):
            kept = [lot for lot in lots(range(len(facts))) if not follows(book, [facts[at] for at in lot], ((), ()))]
            most = [lot for lot in kept if not any(set(lot) < set(other) for other in kept)]
            self.assertEqual(peace_lots(book, facts), tuple(sorted(most)))
            left = [tuple(at for at in range(len(facts)) if at not in lot)
                    for lot, world in break_lots(book, facts, [((), ())])]
            self.assertEqual(peace_lots(book, facts), tuple(sorted(left)))

    def test_examples_and_edges(self):
        self.assertEqual(reason_lots(EMPTY, CHAIN, [GOAL]), ((0, 1), (2,)))
        self.assertEqual([lot for lot, world in break_lots(EMPTY, CHAIN, [GOAL])], [(0, 2), (1, 2)])
        self.assertEqual(reason_lots(EMPTY, (), [(("p",), ("p",))]), ((),))
        self.assertEqual(reason_lots(EMPTY, (), [((), ())]), ())
        self.assertEqual(break_lots(EMPTY, (), [(("p",), ("p",))]), ())
        self.assertEqual(break_lots(EMPTY, (), [((), ())]), (((), ()),))
        self.assertEqual(reason_lots(EMPTY, CHAIN[:1] * 2, [CHAIN[0]]), ((0,), (1,)))
        self.assertEqual(break_lots(EMPTY, CHAIN[:1] * 2, [CHAIN[0]]), (((0, 1), (("p", 1), ("q", 0))),))
        self.assertEqual(peace_lots(EMPTY, ()), ((),))
        self.assertEqual(peace_lots(EMPTY, [((), ())]), ((),))
        self.assertEqual(peace_lots(EMPTY, [(("p",), ()), ((), ("p",)), (("q",), ("q",))]), ((0, 2), (1, 2)))
        self.assertEqual(reason_lots(book=EMPTY, facts=CHAIN, goals=(GOAL,) * 4), ((0, 1), (2,)))

    def test_wrong(self):
        letters = tuple("abcdefghijk")
        for call, more in ((reason_lots, (None,)), (break_lots, (None,)), (peace_lots, ())):
            for value in JUNK:
                if not isinstance(value, Book):
                    self.wrong(InvalidBook, {"at": -1}, call, value, None, *more)
            for facts, at in NO_FACTS + (([((), ("p",))] * 9, -1), ([5] * 9, -1)):
                self.wrong(InvalidFacts, {"at": at}, call, HARD, facts, *more)
        self.wrong(InvalidSize, {"word": "sayings"}, peace_lots, HARD, [(letters, ())])
        self.wrong(NotCalm, {"right": 3, "left": 2, "row": (1,)}, peace_lots, HARD, [(letters[:10], ())])
        self.assertEqual(peace_lots(AND, [(letters[:10], ())] * 8), (tuple(range(8)),))
        for call in (reason_lots, break_lots):
            for goals in (None, 5, "|", (), [], EMPTY, [GOAL] * 5, True):
                self.wrong(InvalidSheet, {"at": -1}, call, HARD, [((), ("p",))] * 8, goals)
            for sheet in NO_SHEETS:
                self.wrong(InvalidSheet, {"at": 1}, call, HARD, (), [GOAL, sheet, sheet])
            self.wrong(InvalidSize, {"word": "sayings"}, call, HARD, [(letters[:6], ())], [(letters[6:10], ()), ((), ("k",))])
            self.wrong(NotCalm, {"right": 3, "left": 2, "row": (1,)}, call, HARD, [(letters[:6], ())], [(letters[6:10], ())])
            call(AND, [(letters[:6], ())], [(letters[6:10], ())] * 4)


class RulesTest(Wrong, unittest.TestCase):
    def sheets(self, book, sayings):
        """The rules' sheets, reckoned here."""
        found = set()
        for whole in closed(sayings):
            for name, side, premises in book.rules:
                if isinstance(whole, str) or name != whole[0]:
                    continue
                for choice in itertools.product(*[[(1, k) for k in left] + [(0, k) for k in right] for left, right in premises]):
                    sides = ([whole] if side == "left" else [], [whole] if side == "right" else [])
                    for other, place in choice:
                        sides[other].append(whole[place])
                    if not set(sides[0]) & set(sides[1]):
                        found.add(sheet_of(*sides))
        return tuple(sorted(found, key=sheet_text))

    def test_rule_sheets(self):
        rng = random.Random(312)
        for _ in range(300):
            book = random_book(rng, rules=6)
            sayings = [random_saying(rng, book, 2) for _ in range(rng.randint(0, 3))]
            self.assertEqual(rule_sheets(book, sayings), self.sheets(book, sayings))
            self.assertEqual(rule_sheets(book, listed(sayings)[::-1] * 2), self.sheets(book, sayings))
        self.assertEqual(rule_sheets(AND, ["p", ("and", "p", "p")]), (
            ((("and", "p", "p"),), ("p",)), (("p",), (("and", "p", "p"),))))
        self.assertEqual(rule_sheets(LOGIC, [("top",)]), (((), (("top",),)),))
        whole = ("tonk", "p", "q")
        self.assertEqual(rule_sheets(TONK, [whole]), ((("p",), (whole,)), ((whole,), ("q",))))
        empty = read_book("maker m 1\nright m: |; | 1\nleft m: 1 |; |")
        self.assertEqual(rule_sheets(empty, [("m", "p")]), ())
        self.assertEqual(rule_sheets(book=AND, sayings=()), ())

    def test_truths_are_a_world_exactly_if_they_keep_them(self):
        rng = random.Random(313)
        for _ in range(150):
            book = random_book(rng, rules=6)
            lot = closed([random_saying(rng, book, 2) for _ in range(2)])
            if len(lot) > 6:
                continue
            sheets = rule_sheets(book, lot)
            worlds = all_worlds(book, lot)
            for truths in itertools.product((0, 1), repeat=len(lot)):
                world = dict(zip(lot, truths))
                self.assertEqual(world in worlds, all(is_kept(world, *sheet) for sheet in sheets))

    def test_by_joins_alone(self):
        """A sheet has a proof exactly if it follows from its rules' sheets in a book without rules."""
        tried = 0
        for book, facts, sheet in some_cases(314, 200, facts=0, most=6):
            sheets = rule_sheets(book, sheet[0] + sheet[1])
            if len(sheets) > 40:
                continue
            bare = Book(book.makers, ())
            self.assertEqual(follow_paper(bare, sheets, sheet)[0] == "tree", sheet_paper(book, sheet)[0] == "proof")
            proof = joined_proof(bare, sheets, sheet)
            self.assertEqual(proof is not None, sheet_paper(book, sheet)[0] == "proof")
            if proof is not None:
                self.assertNotIn("rule", words_of(proof))
            tried += len(sheets) > 2
        self.assertGreater(tried, 20)

    def test_largest(self):
        book = Book([("m", 3)], [("m", side, [((1, 2, 3), (1, 2, 3)), ((1, 2), (3,)), ((1, 3), (2,)), ((2, 3), (1,)),
                                              ((1,), (2, 3)), ((2,), (1, 3))]) for side in ("left", "right")])
        rules = book.rules + tuple(("m", "right", premises[:at]) for at in (1, 2, 3, 4) for name, side, premises in book.rules[:1])
        book = Book(book.makers, rules)
        sayings = ["p", "q", "r", ("m", "p", "q", "r"), ("m", "r", "q", "p"), ("m", "p", "p", ("m", "p", "q", "r"))]
        self.assertEqual(rule_sheets(book, sayings), self.sheets(book, sayings))

    def test_wrong(self):
        for value in JUNK:
            if not isinstance(value, Book):
                self.wrong(InvalidBook, {"at": -1}, rule_sheets, value, None)
        for value in (None, 5, "pq", EMPTY, True):
            self.wrong(InvalidSaying, {"at": -1}, rule_sheets, TONK, value)
        for value in NO_SAYINGS + (("or", "p", "p"), ("tonk", "p")):
            self.wrong(InvalidSaying, {"at": 1}, rule_sheets, TONK, ["p", value, value])


if __name__ == "__main__":
    unittest.main()
