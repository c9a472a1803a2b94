"""[48] to [50]: careful proofs, heaps that bar sheets, sayings said alone, the careful court."""

import random
import unittest

from saymakers.books import Book, put_rules, read_book
from saymakers.careful import careful_court, careful_end, careful_holds, careful_paper, said_alone
from saymakers.court import bad_pairs
from saymakers.errors import (
    InvalidBook, InvalidFacts, InvalidSaying, InvalidSheet, InvalidSize, NotCalm, Refused)
from saymakers.facts import follow_paper
from saymakers.proofs import need_proof
from tests.some_proofs import random_saying
from tests.test_heaps import BADLY, FAULTY, IF, LATE, OR, careful_book, right_heap
from tests.test_judge import NO_SHEETS
from tests.test_sayings import DEEP, NO_SAYINGS, wide
from tests.test_signproofs import depth_of
from tests.test_worlds import closed, fits
from tests.tools import (
    AND, EMPTY, JUNK, NO, TONK, Wrong, all_parts, calm_by_tables, changed, is_all_tuples, kids_of, listed, lots,
    random_books, sheet_of)

P, Q = ("start", "p"), ("start", "q")
NOT_CAREFUL = ((("p",), ("p", "q")), ((), ("p", "q")))
ABSURD = read_book("maker bot 0\nleft bot:\nmaker if 2\nright if: 1 | 2\nleft if: | 1; 2 |")


def careful_reckoned(book, facts, proof, deep=1):
    """The end as (set of left sayings, right saying or None), or None for what is no careful proof; forms are right."""
    if deep > 101:
        return None
    word = proof[0]
    if word == "start":
        return {proof[1]}, proof[1]
    if word == "told":
        left, right = facts[proof[1]]
        return set(left), right[0] if right else None
    kids = [careful_reckoned(book, facts, kid, deep + 1) for kid in kids_of(proof)]
    if None in kids:
        return None
    if word == "thin":
        left, right = kids[0]
        more = set(proof[1][1]) | ({right} - {None})
        return (left | set(proof[1][0]), next(iter(more), None)) if len(more) < 2 else None
    if word == "join":
        (left, right), (other, end) = kids
        return (left | (other - {proof[1]}), end) if right in (None, proof[1]) else None
    name, side, premises = book.rules[proof[1]]
    whole = (name,) + proof[2]
    left, ends = set(), set()
    for premise, (own, right) in zip(premises, kids, strict=True):
        left |= own - {proof[2][k - 1] for k in premise[0]}
        if premise[1]:
            if right not in (None, proof[2][premise[1][0] - 1]):
                return None
        elif right is not None:
            ends.add(right)
    if side == "right":
        return (left, whole) if not ends else None
    return (left | {whole}, next(iter(ends), None)) if len(ends) < 2 else None


def reckoned_end(book, facts, value):
    """The end as a sheet, or None, of any value, reckoned here."""
    try:
        need_proof_deep(book, value, facts)
    except Exception:
        return None
    end = careful_reckoned(book, facts, value)
    return None if end is None else sheet_of(end[0], [] if end[1] is None else [end[1]])


def need_proof_deep(book, value, facts):
    """Like need_proof, for proofs of up to 101 parts one within another: the inner ones are looked at by themselves."""
    if not is_all_tuples(value):
        raise ValueError
    if deeper(value, 60):
        need_proof(book, shallow(value), facts)
        for kid in kids_of(value):
            need_proof_deep(book, kid, facts)
    else:
        need_proof(book, value, facts)


def deeper(value, most):
    """Whether tuples stand more than so many parts one within another."""
    return isinstance(value, tuple) and len(value) > 0 and isinstance(value[0], str) and value[0] in (
        "thin", "join", "rule") and (most == 0 or any(deeper(kid, most - 1) for kid in kids_of(value)))


def shallow(value):
    """The proof with starts in place of the proofs within."""
    if value[0] == "rule":
        return value[:3] + (tuple(P for _ in value[3]),)
    return value[:2] + tuple(P for _ in value[2:])


def derivable(book, lot, facts):
    """All careful sheets over the lot that have careful proofs, with any joins, as (frozenset, saying or None)."""
    lefts = [frozenset(side) for side in lots(lot)]
    rights = [None] + list(lot)
    done = {(left, right) for left in lefts for right in rights if right in left} | {
        (left, right) for left in lefts for right in rights for own, end in facts
        if set(own) <= left and (not end or end[0] == right)}

    def by_rules(left, right):
        for whole in lot:
            for name, side, premises in book.rules:
                if isinstance(whole, str) or name != whole[0] or whole not in (left if side == "left" else {right}):
                    continue
                if all((left | {whole[k] for k in own}, whole[end[0]] if end else right if side == "left" else None)
                       in done for own, end in premises):
                    return True
        return False
    while True:
        more = {(left, right) for left in lefts for right in rights if (left, right) not in done and (
            (left, None) in done or by_rules(left, right)
            or any((left, saying) in done and (left | {saying}, right) in done for saying in lot))}
        if not more:
            return done
        done |= more


def some_cases(seed, many, most=4):
    """(book, facts, careful sheet) of few parts, at random."""
    rng = random.Random(seed)
    while many:
        book = rng.choice((careful_book(rng), careful_book(rng, [("m", 2)], 6, 2), OR, IF, NO, ABSURD))
        lot = list(closed([random_saying(rng, book, 2), random_saying(rng, book, 1)]))
        if len(lot) > most:
            continue

        def some():
            return sheet_of(rng.sample(lot, min(len(lot), rng.choice((0, 1, 1, 2)))), rng.sample(lot, rng.choice((0, 1, 1))))
        many -= 1
        yield book, tuple(some() for _ in range(rng.choice((0, 0, 1, 2, 3)))), some()


def right_paper(book, facts, sheet, value):
    """Whether the value is a paper, reckoned here."""
    if type(value) is not tuple or not value or not is_all_tuples(value):
        return False
    if value[0] == "proof" and len(value) == 2:
        told = {saying for fact in facts for side in fact for saying in side}
        return reckoned_end(book, facts, value[1]) == sheet and all(
            part[1] in told for part in all_parts(value[1]) if part[0] == "join")
    if value[0] != "heap" or len(value) != 3 or type(value[1]) is not tuple:
        return False
    lot = value[1]
    if not all(fits(book, saying) for saying in lot) or lot != closed(lot) or not right_heap(book, lot, value[2]):
        return False
    every = {saying for each in facts + (sheet,) for side in each for saying in side}

    def kept(own):
        return not any(all(truths[lot.index(saying)] for saying in own[0])
                       and not any(truths[lot.index(saying)] for saying in own[1]) for truths, above in value[2])
    return every <= set(lot) and all(map(kept, facts)) and not kept(sheet)


class EndsTest(Wrong, unittest.TestCase):
    def test_ends(self):
        told = ((("p",), ("q",)), (("q",), ()))
        whole, other = ("or", "p", "q"), ("or", "q", "p")
        for book, proof, end in (
                (OR, P, (("p",), ("p",))), (OR, ("told", 0), told[0]), (OR, ("told", 1), told[1]),
                (OR, ("thin", (("r",), ()), P), (("p", "r"), ("p",))), (OR, ("thin", ((), ("p",)), P), (("p",), ("p",))),
                (OR, ("thin", ((), ("q",)), P), None), (OR, ("thin", ((), ("r",)), ("told", 1)), (("q",), ("r",))),
                (OR, ("thin", ((), ("p", "r")), ("told", 1)), None), (OR, ("thin", ((), ("p", "q")), P), None),
                # Right rules: each proof ends in the premise's right saying or in nothing.
                (OR, ("rule", 1, ("p", "q"), (P,)), (("p",), (whole,))), (OR, ("rule", 1, ("p", "q"), (Q,)), None),
                (OR, ("rule", 1, ("p", "q"), (("told", 1),)), (("q",), (whole,))),
                (OR, ("rule", 2, ("p", "q"), (Q,)), (("q",), (whole,))),
                (NO, ("rule", 1, ("q",), (("told", 1),)), ((), (("no", "q"),))),
                (NO, ("rule", 1, ("p",), (P,)), None), (NO, ("rule", 1, ("r",), (("told", 1),)), (("q",), (("no", "r"),))),
                # Left rules: soft premises' proofs may end in any one saying, the same for all that end in one.
                (OR, ("rule", 0, ("p", "q"), (P, Q)), None),
                (OR, ("rule", 0, ("p", "q"), (("told", 0), Q)), ((whole,), ("q",))),
                (OR, ("rule", 0, ("p", "q"), (P, ("told", 1))), ((whole,), ("p",))),
                (OR, ("rule", 0, ("q", "q"), (("told", 1), ("told", 1))), ((("or", "q", "q"),), ())),
                (OR, ("rule", 0, ("q", "p"), (Q, ("told", 0))), ((other,), ("q",))),
                (IF, ("rule", 0, ("p", "q"), (P, Q)), (("p", ("if", "p", "q")), ("q",))),
                (IF, ("rule", 0, ("p", "q"), (Q, Q)), None),
                (IF, ("rule", 0, ("p", "q"), (("told", 1), ("told", 1))), (("q", ("if", "p", "q")), ())),
                (NO, ("rule", 0, ("p",), (P,)), (("p", ("no", "p")), ())),
                (IF, ("rule", 1, ("p", "q"), (("thin", (("p",), ()), Q),)), (("q",), (("if", "p", "q"),))),
                # Joins: the first proof ends in the saying or in nothing.
                (OR, ("join", "p", P, ("told", 0)), (("p",), ("q",))), (OR, ("join", "q", P, Q), None),
                (OR, ("join", "p", ("told", 1), P), (("q",), ("p",))), (OR, ("join", "q", ("told", 0), ("told", 1)), (("p",), ())),
                (OR, ("join", "r", ("told", 1), P), (("p", "q"), ("p",)))):
            self.assertEqual(careful_end(book, told, proof), end, proof)
            self.assertEqual(careful_end(book, listed(told), proof), end)
            self.assertEqual(reckoned_end(book, told, proof), end)
            self.assertIsNone(careful_end(book, told, listed(proof)))

    def test_any_values(self):
        for book in (OR, IF, NO, EMPTY):
            for value in list(JUNK) + [("told", 2), ("told", True), ("start", "P"), ("thin", ((), ["p"]), P),
                                       ("thin", (("q", "p"), ()), P), ("rule", 0, ("p", "q"), [P, Q]), ("rule", 9, (), ()),
                                       ("rule", 0, ("p", "q"), (P,)), ("rule", 1, ("p",), (P, P)), ("join", "p", P),
                                       ("rule", 1, (DEEP,), (("thin", (("p",), ()), P),)), ("start", wide(401)),
                                       ("join", ("or",), P, P), ("told", 0, 0)]:
                self.assertEqual(careful_end(book, (((), ("p",)),), value), reckoned_end(book, (((), ("p",)),), value), value)

    def test_random_ends(self):
        rng = random.Random(341)
        found = {True: 0, False: 0}
        for book, facts, sheet in some_cases(342, 200):
            pool = [("start", saying) for saying in closed([random_saying(rng, book, 2)])] + [
                ("told", number) for number in range(len(facts))]
            for _ in range(15):
                proof = rng.choice(pool)
                if book.rules and rng.random() < 0.6:
                    number = rng.randrange(len(book.rules))
                    name, side, premises = book.rules[number]
                    sayings = tuple(rng.choice(("p", "q", random_saying(rng, book, 1))) for _ in range(book.maker_places(name)))
                    proof = ("rule", number, sayings, tuple(rng.choice(pool) for _ in premises))
                elif rng.random() < 0.5:
                    proof = ("join", rng.choice("pq"), rng.choice(pool), rng.choice(pool))
                else:
                    proof = ("thin", ((rng.choice("pq"),), ()) if rng.random() < 0.5 else ((), (rng.choice("pq"),)), proof)
                end = reckoned_end(book, facts, proof)
                self.assertEqual(careful_end(book, facts, proof), end, (book.rules, facts, proof))
                found[end is not None] += 1
                if end is not None and len(all_parts(proof)) < 40:
                    pool.append(proof)
        self.assertGreater(min(found.values()), 200)

    def test_a_hundred_and_one_steps(self):
        proof = P
        for _ in range(100):
            proof = ("thin", (("q",), ()), proof)
        self.assertEqual(depth_of(proof), 101)
        self.assertEqual(careful_end(EMPTY, (), proof), (("p", "q"), ("p",)))
        self.assertIs(careful_holds(EMPTY, (), (("p", "q"), ("p",)), ("proof", proof)), True)
        self.assertIsNone(careful_end(EMPTY, (), ("thin", ((), ()), proof)))
        self.assertIs(careful_holds(EMPTY, (), (("p", "q"), ("p",)), ("proof", ("thin", ((), ()), proof))), False)
        many = P
        while len(all_parts(many)) < 2000:
            many = ("join", "z", ("told", 0), ("join", "p", many, many))
        self.assertEqual(careful_end(EMPTY, [((), ())], many), (("p",), ("p",)))


class PapersTest(Wrong, unittest.TestCase):
    def test_just_one_of_both(self):
        found = {}
        for book, facts, sheet in some_cases(343, 500):
            lot = closed([saying for each in facts + (sheet,) for side in each for saying in side])
            paper = careful_paper(book, facts, sheet)
            self.assertTrue(is_all_tuples(paper))
            self.assertTrue(right_paper(book, facts, sheet, paper), (book.rules, facts, sheet, paper))
            self.assertIs(careful_holds(book, facts, sheet, paper), True)
            self.assertIs(careful_holds(book, listed(facts), listed(sheet), paper), True)
            end = (frozenset(sheet[0]), sheet[1][0] if sheet[1] else None)
            self.assertEqual(paper[0] == "proof", end in derivable(book, lot, facts))
            if paper[0] == "heap":
                self.assertEqual(paper[1], lot)
                self.assertLessEqual(len(paper[2]), 128)
                big = len(paper[2]) > 1
            else:
                self.assertLessEqual(depth_of(paper[1]), 101)
                big = "rule" in {part[0] for part in all_parts(paper[1])}
            found[paper[0], big] = found.get((paper[0], big), 0) + 1
        self.assertEqual(len(found), 4)
        self.assertGreater(min(found.values()), 20)

    def test_all_sheets_of_a_lot(self):
        rng = random.Random(344)
        for _ in range(25):
            book = rng.choice((careful_book(rng, [("m", 2)], 6, 2), OR, IF, ABSURD))
            lot = closed([random_saying(rng, book, 2)])
            if len(lot) > 4:
                continue
            facts = tuple(sheet_of(rng.sample(lot, rng.randint(0, 1)), rng.sample(lot, rng.randint(0, 1))) for _ in range(2))
            done = derivable(book, lot, facts)
            for left in lots(lot):
                for right in lots(lot, 1):
                    if set(closed(left + right + tuple(saying for fact in facts for side in fact for saying in side))) == set(lot):
                        paper = careful_paper(book, facts, (left, right))
                        self.assertTrue(right_paper(book, facts, sheet_of(left, right), paper))
                        self.assertEqual(paper[0] == "proof", (frozenset(left), right[0] if right else None) in done)

    def test_edges(self):
        self.assertEqual(careful_paper(EMPTY, (), ((), ())), ("heap", (), (((), (0,)),)))
        self.assertEqual(careful_paper(EMPTY, [((), ())], ((), ())), ("proof", ("told", 0)))
        self.assertEqual(careful_paper(EMPTY, [((), ())], (("p",), ("q",)))[1], ("thin", (("p",), ("q",)), ("told", 0)))
        self.assertEqual(careful_paper(EMPTY, (), (("p",), ("p",))), ("proof", P))
        self.assertEqual(careful_paper(book=EMPTY, facts=(), sheet=(["p"], []))[0], "heap")
        # What is told twice over carefully: no | no(no(..)) but not back.
        whole = ("no", ("no", "p"))
        self.assertEqual(careful_paper(NO, (), (("p",), (whole,)))[0], "proof")
        self.assertEqual(careful_paper(NO, (), ((whole,), ("p",)))[0], "heap")
        self.assertEqual(follow_paper(NO, (), ((whole,), ("p",)))[0], "tree")
        peirce = ("if", ("if", ("if", "p", "q"), "p"), "p")
        self.assertEqual(careful_paper(IF, (), ((), (peirce,)))[0], "heap")
        self.assertEqual(follow_paper(IF, (), ((), (peirce,)))[0], "tree")
        self.assertEqual(careful_paper(OR, (), ((("or", "p", "q"),), (("or", "q", "p"),)))[0], "proof")
        facts = [((), (("if", "p", "q"),)), ((), (("if", "q", "r"),))]
        paper = careful_paper(IF, facts, (("p",), ("r",)))
        self.assertTrue(right_paper(IF, tuple(facts), (("p",), ("r",)), paper))

    def test_values(self):
        values = list(JUNK) + [("proof", value) for value in JUNK] + [("heap", ("p",), value) for value in JUNK] + [
            ("heap", value, (((0,), (0,)),)) for value in JUNK] + [("heap",), ("proof",)]
        for book, facts, sheet in some_cases(345, 60, most=3):
            paper = careful_paper(book, facts, sheet)
            for value in values + list(changed(paper))[:900] + [listed(paper)]:
                self.assertIs(careful_holds(book, facts, sheet, value), right_paper(book, facts, sheet, value),
                              (book.rules, facts, sheet, value))

    def test_any_heap_on_a_greater_lot(self):
        world = (((0, 0), (0,)),)
        for value, right in (
                (("heap", ("p",), (((1,), (0,)),)), True), (("heap", ("p",), (((1,), (0,)), ((1,), (1,)))), True),
                (("heap", ("p", "q"), (((1, 0), (0, 1)), ((1, 1), (1,)))), True), (("heap", ("p",), (((0,), (0,)),)), False),
                (("heap", ("q",), (((1,), (0,)),)), False), (("heap", ("q", "p"), world), False),
                (("heap", ("p", ("no", "p")), (((1, 0), (0,)),)), True), (("heap", (("no", "p"), "p"), (((1, 0), (0,)),)), False),
                (("heap", ("p", ("no", "p")), (((1, 1), (0,)),)), False), (("heap", (("no", "p"),), (((0,), (0,)),)), False),
                (("heap", ["p"], (((1,), (0,)),)), False), (("heap", ("p",), (((1,), (0,)),), ()), False)):
            self.assertIs(careful_holds(NO, (), (("p",), ()), value), right, value)
        value = ("heap", ("p", "q"), (((1, 0), (0, 1)), ((1, 1), (1,))))
        self.assertIs(careful_holds(NO, [(("p",), ("q",))], (("p",), ()), value), False)
        self.assertIs(careful_holds(NO, [(("q",), ("p",))], (("p",), ()), value), True)
        self.assertIs(careful_holds(NO, [((), ("r",))], (("p",), ()), value), False)

    def test_joins_on_sayings_of_facts_alone(self):
        facts = [((), ("p",)), (("p",), ("q",))]
        joined = ("join", "p", ("told", 0), ("told", 1))
        self.assertIs(careful_holds(EMPTY, facts, ((), ("q",)), ("proof", joined)), True)
        self.assertIs(careful_holds(EMPTY, facts, ((), ("q",)), ("proof", ("join", "q", joined, Q))), True)
        whole = ("or", "p", "q")
        proof = ("join", whole, ("rule", 1, ("p", "q"), (P,)), ("rule", 0, ("p", "q"), (("thin", (("z",), ()), P), ("told", 0))))
        self.assertEqual(careful_end(OR, [(("q",), ("p",))], proof), (("p", "z"), ("p",)))
        self.assertIs(careful_holds(OR, [(("q",), ("p",))], (("p", "z"), ("p",)), ("proof", proof)), False)
        self.assertIs(careful_holds(OR, [(("q",), ("p",)), ((whole,), ())], (("p", "z"), ("p",)), ("proof", proof)), True)

    def test_seven_parts_and_eight_facts(self):
        rng = random.Random(346)
        tried = 0
        while tried < 25:
            book = rng.choice((careful_book(rng, [("m", 2), ("n", 1)], 10, 3), careful_book(rng, [("m", 3)], 10, 3), OR, IF))
            lot = closed([random_saying(rng, book, 2) for _ in range(2)])
            if len(lot) != 7:
                continue
            tried += 1
            facts = tuple(sheet_of(rng.sample(lot, rng.randint(1, 2)), rng.sample(lot, rng.randint(0, 1))) for _ in range(8))
            sheet = sheet_of(rng.sample(lot, 2), rng.sample(lot, 1))
            paper = careful_paper(book, facts, sheet)
            self.assertIs(careful_holds(book, facts, sheet, paper), True)
            self.assertTrue(right_paper(book, facts, sheet, paper))
            if paper[0] == "proof":
                self.assertLess(len(all_parts(paper[1])), 2000)

    def test_wrong(self):
        calls = ((careful_paper, (None,)), (careful_holds, (None, None)), (careful_end, (None,)))
        for call, more in calls:
            for value in JUNK:
                if not isinstance(value, Book):
                    self.wrong(InvalidBook, {"at": -1}, call, value, None, *more)
            self.wrong(NotCalm, {"right": 1, "left": 0, "row": (1, 0)}, call, TONK, None, *more)
            self.wrong(NotCalm, {"right": 1, "left": 0, "row": (0, 1)}, call, BADLY, None, *more)
            self.wrong(Refused, {"at": (1, 0)}, call, FAULTY, None, *more)
            self.wrong(Refused, {"at": (1, 1)}, call, LATE, None, *more)
            for facts in (None, 5, "|", EMPTY, True):
                self.wrong(InvalidFacts, {"at": -1}, call, AND, facts, *more)
            for sheet in NO_SHEETS + NOT_CAREFUL:
                self.wrong(InvalidFacts, {"at": 1}, call, AND, [((), ()), sheet, sheet], *more)
        for sheet in NO_SHEETS + NOT_CAREFUL:
            self.wrong(InvalidSheet, {"at": -1}, careful_paper, AND, [(tuple("abcdefgh"), ())], sheet)
            self.wrong(InvalidSheet, {"at": -1}, careful_holds, AND, (), sheet, None)
        self.wrong(InvalidSize, {"word": "sayings"}, careful_paper, AND, [(tuple("abcdefg"), ())], ((), ("h",)))
        self.wrong(InvalidSize, {"word": "sayings"}, careful_paper, AND, (), (tuple("abcdefgh"), ()))
        self.assertEqual(careful_paper(AND, [(tuple("abcdefg"), ())], ((), ("g",)))[0], "heap")
        self.assertIs(careful_holds(AND, [(tuple("abcdefg"), ())], ((), ("h",)), None), False)


class AloneTest(Wrong, unittest.TestCase):
    def test_said_alone(self):
        found = {True: 0, False: 0}
        rng = random.Random(347)
        for _ in range(300):
            book = rng.choice((careful_book(rng), careful_book(rng, [("m", 1), ("t", 0)], 6, 2), IF, OR, ABSURD))
            saying = random_saying(rng, book, 2)
            lot = closed([saying])
            if len(lot) > 4:
                continue
            number = said_alone(book, saying)
            done = derivable(book, lot, ())
            right = None
            for at, (name, side, premises) in reversed(list(enumerate(book.rules))):
                if not isinstance(saying, str) and (name, side) == (saying[0], "right") and all(
                        (frozenset(saying[k] for k in own), saying[end[0]] if end else None) in done for own, end in premises):
                    right = at
            self.assertEqual(number, right)
            self.assertEqual(number is None, (frozenset(), saying) not in done)
            found[number is None] += 1
        self.assertGreater(min(found.values()), 15)

    def test_edges(self):
        self.assertIsNone(said_alone(OR, "p"))
        self.assertIsNone(said_alone(EMPTY, "p"))
        self.assertEqual(said_alone(IF, ("if", "p", "p")), 1)
        self.assertIsNone(said_alone(IF, ("if", "p", "q")))
        self.assertIsNone(said_alone(NO, ("no", "p")))
        twice = read_book("maker t 1\nright t: | 1\nright t: 1 | 1\nright t:")
        self.assertEqual([rule[2] for rule in twice.rules], [(), (((), (1,)),), (((1,), (1,)),)])
        self.assertEqual(said_alone(twice, ("t", "p")), 0)
        self.assertEqual(said_alone(book=Book(twice.makers, twice.rules[1:]), saying=["t", "p"]), 1)

    def test_wrong(self):
        for value in JUNK:
            if not isinstance(value, Book):
                self.wrong(InvalidBook, {"at": -1}, said_alone, value, None)
        self.wrong(NotCalm, {"right": 1, "left": 0, "row": (1, 0)}, said_alone, TONK, None)
        self.wrong(Refused, {"at": (1, 0)}, said_alone, FAULTY, None)
        for value in NO_SAYINGS + (("or", "p", "p"), ("no", "p", "q")):
            self.wrong(InvalidSaying, {"at": -1}, said_alone, NO, value)
        deep = "p"
        for _ in range(6):
            deep = ("no", deep)
        self.assertIsNone(said_alone(NO, deep))
        self.wrong(InvalidSize, {"word": "sayings"}, said_alone, NO, ("no", deep))


class CourtTest(Wrong, unittest.TestCase):
    def test_court(self):
        found = {True: 0, False: 0}
        rng = random.Random(348)
        books = [careful_book(rng) for _ in range(60)]
        books += [Book(book.makers, [(name, side, [(left, right[:1]) for left, right in premises])
                                     for name, side, premises in book.rules]) for book in random_books(150, 349)]
        for book in books + [TONK, OR, EMPTY, read_book("maker m 0\nright m:\nleft m:")]:
            court = careful_court(book)
            self.assertTrue(is_all_tuples(court))
            found[calm_by_tables(book)] += 1
            if calm_by_tables(book):
                self.assertEqual(court, ("calm",))
                self.assertEqual(careful_paper(book, [(("r",), ())], (("q",), ()))[0], "heap")
                continue
            word, right, left, row, proof = court
            self.assertEqual((word, right, left, row), ("clash",) + bad_pairs(book)[0][:2] + bad_pairs(book)[0][2][:1])
            facts = ((("r",), ()),)
            self.assertEqual(careful_reckoned(book, facts, proof), ({"q"}, None))
            need_proof(book, proof, facts)
            sayings = tuple("q" if truth else "r" for truth in row)
            parts = all_parts(proof)
            self.assertEqual([part[1:3] for part in parts if part[0] == "rule"], [(right, sayings), (left, sayings)])
            self.assertEqual([part[1] for part in parts if part[0] == "join"], [(book.rules[right][0],) + sayings])
        self.assertGreater(min(found.values()), 30)

    def test_wrong(self):
        for value in JUNK:
            if not isinstance(value, Book):
                self.wrong(InvalidBook, {"at": -1}, careful_court, value)
        self.wrong(Refused, {"at": (1, 0)}, careful_court, FAULTY)
        self.wrong(Refused, {"at": (1, 0)}, careful_court, BADLY)
        self.wrong(Refused, {"at": (1, 1)}, careful_court, LATE)
        both = put_rules(LATE, [("a", "right", [])])
        self.wrong(Refused, {"at": (2, 1)}, careful_court, both)


class TwiceTest(unittest.TestCase):
    def test_careful_proofs_are_proofs(self):
        """What has a careful proof from facts follows from them."""
        for book, facts, sheet in some_cases(350, 200):
            if careful_paper(book, facts, sheet)[0] == "proof":
                self.assertEqual(follow_paper(book, facts, sheet)[0], "tree")


if __name__ == "__main__":
    unittest.main()
