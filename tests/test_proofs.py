"""[14] to [16]: proofs, their ends, rows and fillings, cutting them short."""

import random
import unittest

from saymakers.books import Book, read_book
from saymakers.errors import InvalidBook, InvalidFacts, InvalidFilling, InvalidProof, InvalidSaying, InvalidSheet, Refused
from saymakers.proofs import (
    cut_short, filled_proof, joined_sayings, need_proof, proof_end, proof_height, proof_holds, proof_rows, row_proof)
from tests.some_proofs import random_proof
from tests.test_sayings import DEEP, NO_SAYINGS, wide
from tests.tools import (
    AND, EMPTY, JUNK, LOGIC, NO, TONK, Wrong, all_parts, changed, end_of, end_sheet, height_of, in_order,
    is_all_tuples, is_same, kids_of, listed, parts, random_book, sheet_of, words_of)

P, Q = ("start", "p"), ("start", "q")
FACTS = ((("p",), ("q",)), ((), ()), ((), (("and", "p", "q"),)))
ALL = (P, ("thin", (("p",), ("q", "r")), P), ("rule", 1, ("p", "q"), (P, Q)), ("join", "p", P, P))


def no(times, saying):
    """The saying within so many makers "no"."""
    return saying if not times else ("no", no(times - 1, saying))


def thinned(times, proof):
    """The proof within so many empty thinnings."""
    for _ in range(times):
        proof = ("thin", ((), ()), proof)
    return proof


def some_proofs(seed, many, calm=None, joins=True, starts=True, **more):
    """(book, proof), at random."""
    rng = random.Random(seed)
    for _ in range(many):
        book = random_book(rng, calm=calm, rules=6, premises=4, **more)
        yield book, random_proof(rng, book, joins, starts)


class EndsTest(Wrong, unittest.TestCase):
    def test_ends(self):
        for proof, sheet in (
                (P, (("p",), ("p",))), (ALL[1], (("p",), ("p", "q", "r"))), (ALL[2], (("p", "q"), (("and", "p", "q"),))),
                (("rule", 0, ("p", "q"), (P,)), ((("and", "p", "q"),), ("p",))),
                (("rule", 0, ("q", "r"), (P,)), (("p", ("and", "q", "r")), ("p",))),
                (("rule", 1, ("p", "p"), (P, P)), (("p",), (("and", "p", "p"),))),
                (("join", "p", P, Q), (("p", "q"), ("q",))), (("join", "q", P, P), (("p",), ("p",))),
                (("join", "p", P, P), (("p",), ("p",))),
                (("join", "q", Q, ALL[2]), (("p", "q"), (("and", "p", "q"),))),
                (("thin", ((), ()), ("thin", (("q",), ()), P)), (("p", "q"), ("p",)))):
            self.assertEqual(proof_end(AND, proof), sheet)
            self.assertIs(need_proof(AND, proof), proof)
            self.assertIs(proof_holds(AND, sheet, proof), True)
            self.assertIs(proof_holds(AND, listed(sheet), proof), True)
            self.assertIs(proof_holds(AND, (sheet[0], sheet[1] + ("z",)), proof), False)
            self.assertIs(proof_holds(AND, ((), ()), proof), False)

    def test_the_empty_premise_and_rules_without_premises(self):
        book = read_book("maker m 1\nright m:\nleft m: |\nmaker t 0\nright t:")
        self.assertEqual(book.rules[1], ("m", "right", ()))
        self.assertEqual(proof_end(book, ("rule", 1, ("p",), ())), ((), (("m", "p"),)))
        self.assertEqual(proof_end(book, ("rule", 0, ("p",), (Q,))), (("q", ("m", "p")), ("q",)))
        self.assertEqual(proof_end(book, ("rule", 2, (), ())), ((), (("t",),)))
        both = read_book("maker m 1\nright m: 1 | 1")
        self.assertEqual(proof_end(both, ("rule", 0, ("p",), (P,))), ((), (("m", "p"),)))
        alike = read_book("maker m 2\nright m: 1 | 2")
        self.assertEqual(proof_end(alike, ("rule", 0, ("p", "p"), (P,))), ((), (("m", "p", "p"),)))

    def test_facts(self):
        self.assertEqual(proof_end(AND, ("told", 0), FACTS), (("p",), ("q",)))
        self.assertEqual(proof_end(AND, ("told", 1), FACTS), ((), ()))
        proof = ("join", "q", ("told", 0), ("thin", (("q",), ()), ("told", 2)))
        self.assertEqual(proof_end(AND, proof, facts=listed(FACTS)), (("p",), (("and", "p", "q"),)))
        self.assertIs(proof_holds(AND, (["p"], [["and", "p", "q"]]), proof, FACTS), True)
        self.assertIs(proof_holds(AND, (["p"], [["and", "p", "q"]]), proof), False)
        self.assertIs(need_proof(AND, proof, FACTS), proof)
        self.assertEqual(proof_end(AND, ("told", 0), [[["q", "p", "q"], []]]), (("p", "q"), ()))
        for number in (3, -1, True, None, "0"):
            self.wrong(InvalidProof, {"at": 0}, need_proof, AND, ("told", number), FACTS)
        self.wrong(InvalidProof, {"at": 0}, need_proof, AND, ("told", 0))
        for facts, at in ((None, -1), (5, -1), ("|", -1), (EMPTY, -1), ([5], 0), ([FACTS[0], ((), ("Q",))], 1),
                          ([FACTS[0], ((), (("or", "p", "q"),)), 5], 1), ([((), (("and", "p"),))], 0)):
            for call in (need_proof, proof_end):
                self.wrong(InvalidFacts, {"at": at}, call, AND, None, facts)
            self.wrong(InvalidFacts, {"at": at}, proof_holds, AND, ((), ()), None, facts)
            self.wrong(InvalidSheet, {"at": -1}, proof_holds, AND, None, None, facts)

    def test_random_ends(self):
        for book, proof in some_proofs(51, 250):
            self.assertEqual(proof_end(book, proof), end_sheet(book, proof))
            self.assertIs(proof_holds(book, end_sheet(book, proof), proof), True)
            self.assertEqual(proof_height(book, proof), height_of(proof))
            self.assertEqual(joined_sayings(book, proof), tuple(
                part[1] for part in all_parts(proof) if part[0] == "join"))

    def test_first_wrong_part(self):
        deep = ("rule", 1, ("p", "q"), (("join", "p", P, ("start", "P")), 5))
        for value, at in (
                (None, 0), (5, 0), ("start", 0), ((), 0), (("start",), 0), (("start", "p", "q"), 0), (("odd", "p"), 0),
                ((P,), 0), ((True, "p"), 0), (("start", "P"), 0), (("start", ["and", "p", "q"]), 0), (["start", "p"], 0),
                (("start", ("or", "p", "q")), 0), (("start", ("and", "p")), 0), (("Start", "p"), 0), (("start", None), 0),
                (("thin", ((), ()), None), 1), (("thin", ((), ()),), 0), (("thin", None, None), 0),
                (("thin", (("q", "p"), ()), P), 0), (("thin", (("p", "p"), ()), P), 0), (("thin", (["p"], ()), P), 0),
                (("thin", [(), ()], P), 0), (("thin", ((), ("P",)), P), 0), (("thin", ((), (("or", "p", "q"),)), P), 0),
                (("thin", ((), (), ()), P), 0), (("thin", ((), ()), P, P), 0), (("thin", ((), ()), list(P)), 1),
                (("rule", 2, ("p", "q"), (P,)), 0), (("rule", -1, ("p", "q"), (P,)), 0),
                (("rule", False, ("p", "q"), (P,)), 0), (("rule", "0", ("p", "q"), (P,)), 0),
                (("rule", 0, ("p",), (P,)), 0), (("rule", 0, ("p", "q", "r"), (P,)), 0),
                (("rule", 0, (["and", "p", "q"], "q"), (P,)), 0), (("rule", 0, ["p", "q"], (P,)), 0), (("rule", 0, ("p", "Q"), (P,)), 0), (("rule", 0, "pq", (P,)), 0),
                (("rule", 0, ("p", "q"), ()), 0), (("rule", 0, ("p", "q"), (P, P)), 0),
                (("rule", 0, ("p", "q"), [P]), 0), (("rule", 0, ("p", "q"), P), 0), (("rule", 0, ("p", "q")), 0),
                (("rule", 0, ("p", ("or", "p", "q")), (P,)), 0), (("rule", 0, ("p", "q"), (("told", 0),)), 1),
                (("join", "p", P), 0), (("join", "P", 5, 5), 0), (("join", "p", 5, 5), 1), (("join", "p", P, 5), 2),
                (("join", ["and", "p", "q"], P, P), 0), (("join", "p", P, P, P), 0), (("join", "p", (P, P)), 0),
                (("join", "p", ALL[2], 5), 4), (("join", "p", ("join", "p", P, P), ("join", "p", P, "p")), 6),
                (deep, 3), (deep[:3] + ((P, 5),), 2), (EMPTY, 0), ((EMPTY, "p"), 0), (("start", EMPTY), 0)):
            for call in (need_proof, proof_end):
                self.wrong(InvalidProof, {"at": at}, call, AND, value)
            for call in (joined_sayings, proof_height, proof_rows, cut_short):
                self.wrong(InvalidProof, {"at": at}, call, AND, value)
            self.wrong(InvalidProof, {"at": at}, filled_proof, AND, value, None)
            self.assertIs(proof_holds(AND, (["p"], ["p"]), value), False)
        for value in NO_SAYINGS:
            self.wrong(InvalidProof, {"at": 1}, need_proof, AND, ("thin", ((), ()), ("start", value)))

    def test_too_deep_or_too_great(self):
        self.assertEqual(proof_end(AND, thinned(79, P)), (("p",), ("p",)))
        self.wrong(InvalidProof, {"at": 80}, need_proof, AND, thinned(80, P))
        self.wrong(InvalidProof, {"at": 80}, need_proof, AND, thinned(80, 5))
        self.wrong(InvalidProof, {"at": 79}, need_proof, AND, thinned(79, 5))
        self.wrong(InvalidProof, {"at": 83}, need_proof, AND, ("join", "p", ("join", "p", P, P), thinned(79, P)))
        self.wrong(InvalidProof, {"at": 80}, need_proof, AND, ("join", "p", thinned(79, P), 5))
        self.wrong(InvalidProof, {"at": 1}, need_proof, NO, ("thin", ((), ()), ("rule", 0, (DEEP,), (P,))))
        self.assertEqual(proof_end(NO, ("rule", 0, (DEEP[1],), (P,)))[0], ("p", DEEP))
        book = read_book("maker w 3\nmaker m 2\nmaker n 1\nleft m:")
        self.wrong(InvalidProof, {"at": 0}, need_proof, book, ("rule", 0, (wide(200), wide(200)), ()))
        self.assertEqual(proof_end(book, ("rule", 0, (wide(200), wide(199)), ()))[1], ())

    def test_values_changed_in_one_thing(self):
        """Each value that differs from a proof is taken exactly if it is one, too, with the end asked for."""
        def right(book, value):
            words = {"start": 2, "thin": 3, "rule": 4, "join": 4}
            if type(value) is not tuple or not value or words.get(value[0] if isinstance(value[0], str) else 0) != len(
                    value):
                return False
            if value[0] == "thin":
                sheet = value[1]
                if type(sheet) is not tuple or len(sheet) != 2 or not all(
                        type(side) is tuple and all(saying_right(book, each) for each in side) for side in sheet):
                    return False
                return sheet == sheet_of(*sheet) and right(book, value[2])
            if value[0] == "rule":
                if type(value[1]) is not int or not 0 <= value[1] < len(book.rules):
                    return False
                name, side, premises = book.rules[value[1]]
                return (type(value[2]) is tuple and len(value[2]) == book.maker_places(name)
                        and all(saying_right(book, each) for each in value[2]) and type(value[3]) is tuple
                        and len(value[3]) == len(premises) and all(right(book, each) for each in value[3]))
            return saying_right(book, value[1]) and all(right(book, each) for each in value[2:])

        def saying_right(book, value):
            if isinstance(value, str):
                return 1 <= len(value) <= 8 and all("a" <= sign <= "z" for sign in value)
            return (type(value) is tuple and len(value) > 0 and (value[0], len(value) - 1) in [
                (name, places) for name, places in book.makers] and all(saying_right(book, each) for each in value[1:]))

        told = [(LOGIC, ("rule", LOGIC.rules_of("top", "right")[0], (), ())), (AND, ALL[1]), (AND, ALL[2]), (NO, ALL[3])]
        told += [(book, proof) for book, proof in some_proofs(52, 12) if len(all_parts(proof)) < 8]
        for book, proof in told:
            sheet = end_sheet(book, proof)
            for value in list(changed(proof)) + list(JUNK) + [proof, listed(proof)]:
                is_one = right(book, value)
                self.assertIs(proof_holds(book, sheet, value), is_one and end_sheet(book, value) == sheet, value)
                if is_one:
                    self.assertIs(need_proof(book, value), value)
                else:
                    with self.assertRaises(InvalidProof):
                        need_proof(book, value)

    def test_wrong_books_and_sheets(self):
        for value in JUNK:
            if not isinstance(value, Book):
                for call, args in ((need_proof, (None, None)), (proof_end, (None, None)), (proof_rows, (None,)),
                                   (proof_holds, (None, None, None)), (joined_sayings, (None,)), (row_proof, (None,)),
                                   (proof_height, (None,)), (filled_proof, (None, None)), (cut_short, (None,))):
                    self.wrong(InvalidBook, {"at": -1}, call, value, *args)
        for sheet in (None, 5, "|", (), ((),), ((), ("P",)), ((), (("or", "p", "q"),)), (("p",), 5), EMPTY):
            self.wrong(InvalidSheet, {"at": -1}, proof_holds, AND, sheet, P)


class RowsTest(Wrong, unittest.TestCase):
    def test_rows(self):
        self.assertEqual(proof_rows(AND, P), (((("p",), ("p",)), "start", "p", ()),))
        self.assertEqual(proof_rows(AND, ("join", "p", ALL[1], P)), (
            ((("p",), ("p",)), "start", "p", ()),
            ((("p",), ("p", "q", "r")), "thin", (("p",), ("q", "r")), (0,)),
            ((("p",), ("p", "q", "r")), "join", "p", (1, 0))))
        self.assertEqual(proof_rows(AND, ("rule", 1, ("q", "p"), (Q, P))), (
            ((("q",), ("q",)), "start", "q", ()), ((("p",), ("p",)), "start", "p", ()),
            ((("p", "q"), (("and", "q", "p"),)), "rule", (1, ("q", "p")), (0, 1))))

    def test_random_rows(self):
        for book, proof in some_proofs(53, 150):
            rows = proof_rows(book, proof)
            self.assertTrue(is_all_tuples(rows))
            behind = []

            def walk(part):
                for kid in kids_of(part):
                    walk(kid)
                if part not in behind:
                    behind.append(part)
            walk(proof)
            self.assertEqual(len(rows), len(behind))
            for part, (sheet, word, what, numbers) in zip(behind, rows):
                self.assertEqual(sheet, end_sheet(book, part))
                self.assertEqual(word, part[0])
                self.assertEqual(what, part[1:3] if word == "rule" else part[1])
                self.assertEqual(tuple(behind[number] for number in numbers), tuple(kids_of(part)))
            self.assertTrue(is_same(row_proof(book, rows), proof))
            self.assertTrue(is_same(row_proof(book, rows[:1] + tuple(
                row[:3] + (tuple(number + 1 for number in row[3]),) for row in rows)), proof))
            self.assertTrue(is_same(row_proof(book, rows + rows[:1]), behind[0]))

    def test_wrong_rows(self):
        rows = proof_rows(AND, ("join", "q", ("thin", (("q",), ()), P), ("rule", 1, ("p", "q"), (P, Q))))
        self.assertEqual([row[1] for row in rows], ["start", "thin", "start", "rule", "join"])
        for value in JUNK + (listed(rows),):
            if not isinstance(value, tuple) or not value:
                self.wrong(Refused, {"at": -1}, row_proof, AND, value)
            else:
                self.wrong(Refused, {"at": 0}, row_proof, AND, value)
        for at, row in enumerate(rows):
            for other in list(changed(row)):
                value = rows[:at] + (other,) + rows[at + 1:]
                try:
                    proof = row_proof(AND, value)
                except Refused as refused:
                    self.assertGreaterEqual(refused.at, at)
                    continue
                # What is still right tells a proof with the ends that stand in the rows.
                self.assertEqual(end_sheet(AND, proof), value[-1][0])
                self.assertTrue(is_all_tuples(value))
        for row in (((("p",), ("p",)), "start", "q", ()), ((("p",), ("p",)), "start", "p", (0,)),
                    ((("p", "q"), ("p",)), "start", "p", ()), ((("p",), ("p",)), "thin", ((), ()), (5,)),
                    ((("p",), ("p",)), "thin", ((), ()), (True,)), ((("p",), ("p",)), "thin", ((), ()), [0]),
                    ((("p",), ("p",)), "thin", ([], ()), (0,)), ((("p",), ("p",)), "thin", ((), ()), ()),
                    ((("p",), ("p",)), "join", "p", (0,)), ((("p",), ("p",)), "told", 0, ()),
                    ((("p",), ("p",)), "odd", "p", ()), ((("p",), ("p",)), "thin", ((), ()), (-1,)),
                    ((("p",), ("p",)), "rule", (0, ("p", "q")), ()), ((("p",), ("p",)), "rule", 0, (0,)),
                    ((("p",), ("p",)), "rule", (0, ("p",)), (0,)), (["p"], "start", "p", ()), (None,) * 4,
                    (((("and", "p", "q"),), (("and", "p", "q"),)), "start", ["and", "p", "q"], ()),
                    ((["p"], ["p"]), "start", "p", ()), ((("p",), ("p",)), "join", ["and", "p", "q"], (0, 0)),
                    ((("p", "q"), ("p", "q")), "join", "r", (0,)), ((("p",), ("p",)), "start", "P", ())):
            self.wrong(Refused, {"at": 5}, row_proof, AND, rows + (row,))
        again = rows + (((("p",), ("p",)), "join", "p", (0, 0)),)
        self.assertEqual(row_proof(AND, again), ("join", "p", P, P))

    def test_rows_that_grow(self):
        row = ((("p",), ("p",)), "thin", ((), ()), (0,))
        rows = (((("p",), ("p",)), "start", "p", ()),) + tuple(row[:3] + ((at,),) for at in range(79))
        self.assertEqual(row_proof(AND, rows), thinned(79, P))
        self.wrong(Refused, {"at": 80}, row_proof, AND, rows + (row[:3] + ((79,),),))
        joins = (((("p",), ("p",)), "start", "p", ()),) + tuple(
            ((("p",), ("p",)), "join", "p", (at, at)) for at in range(30))
        self.assertEqual(row_proof(AND, joins)[0], "join")


class FillingTest(Wrong, unittest.TestCase):
    def test_fillings(self):
        proof = ("thin", (("r", "s"), ("p",)), ("join", "p", P, ("rule", 1, ("p", "q"), (P, Q))))
        self.assertEqual(filled_proof(AND, proof, [["p", "q"], ("q", ["and", "p", "p"]), ("s", "r")]), (
            "thin", (("r",), ("q",)), ("join", "q", Q, (
                "rule", 1, ("q", ("and", "p", "p")), (Q, ("start", ("and", "p", "p")))))))
        self.assertEqual(filled_proof(AND, proof, ()), proof)
        self.assertEqual(filled_proof(AND, ("thin", (("p", "q"), ()), P), [("p", "z")]),
                         ("thin", (("q", "z"), ()), ("start", "z")))

    def test_ends_lie_within(self):
        rng = random.Random(55)

        def fill(saying, table):
            if isinstance(saying, str):
                return table.get(saying, saying)
            return (saying[0],) + tuple(fill(part, table) for part in saying[1:])
        for book, proof in some_proofs(54, 100):
            filling = [(letter, rng.choice("pqr") if rng.random() < 0.7 else rng.choice(sorted(
                end_of(book, proof)[0] | {"p"}, key=str))) for letter in "pq"]
            filled = filled_proof(book, proof, filling)
            self.assertEqual(words_of(filled), words_of(proof))
            for part, other in zip(all_parts(proof), all_parts(filled)):
                left, right = ({fill(each, dict(filling)) for each in side} for side in end_of(book, part))
                end = end_of(book, other)
                self.assertTrue(end[0] <= left and end[1] <= right)

    def test_wrong_fillings(self):
        for filling, at in ((None, -1), (5, -1), ("p", -1), ([5], 0), ([("p", "q"), ("q",)], 1), ([("P", "q")], 0),
                            ([("p", "q"), ("p", "q")], 1), ([("p", ("or", "p", "q"))], 0), ([("p", ("and", "p"))], 0),
                            ([("q", "p"), ("p", None), 5], 1), ([(("and", "p", "q"), "p")], 0), ([EMPTY], 0)):
            self.wrong(InvalidFilling, {"at": at}, filled_proof, AND, P, filling)
        for proof in (P, ("thin", ((), (("no", "p"),)), Q), ("rule", 0, ("p",), (Q,)), ("join", ("no", "p"), Q, Q)):
            great = DEEP if proof == P else DEEP[1]
            self.assertEqual(len(filled_proof(NO, proof, [("p", DEEP[1] if proof == P else DEEP[1][1])])), len(proof))
            if proof != P:
                self.wrong(InvalidSaying, {"at": -1}, filled_proof, NO, proof, [("p", ("no", great))])
        self.assertEqual(filled_proof(NO, P, [("p", DEEP)]), ("start", DEEP))
        for sheet in (((("no", "p"),), ()), ((), (("no", "p"),)), (("q", ("no", "p")), ("q",))):
            self.wrong(InvalidSaying, {"at": -1}, filled_proof, NO, ("thin", sheet, Q), [("p", DEEP)])
        self.wrong(InvalidSaying, {"at": -1}, filled_proof, NO, ("rule", 0, ("p",), (Q,)), [("p", DEEP)])


class CutShortTest(Wrong, unittest.TestCase):
    def check(self, book, proof):
        short = cut_short(book, proof)
        end = end_sheet(book, proof)
        self.assertEqual(end_sheet(book, short), end)
        self.assertNotIn("join", words_of(short))
        self.assertTrue(is_all_tuples(short))
        lot = set().union(*[parts(saying) for side in end for saying in side]) if any(end) else set()
        most = 0 if set(end[0]) & set(end[1]) else len(lot) - len(end[0]) - len(end[1]) + 1
        self.assertLessEqual(height_of(short), most)
        self.assertLessEqual(height_of(short), height_of(proof))
        need_proof(book, short)

    def test_cut_short(self):
        for starts in (True, False):
            for book, proof in some_proofs(56, 200, joins=False, starts=starts):
                self.check(book, proof)

    def test_no_no(self):
        """For q | no(no(.. no(q))) just as many rules are needed as there are makers."""
        for times in (2, 4, 10, 20):
            proof = Q
            for at in range(times):
                side = "left" if at % 2 == 0 else "right"
                proof = ("rule", NO.rules_of("no", side)[0], (no(at, "q"),), (proof,))
            self.assertEqual(end_sheet(NO, proof), (("q",), (no(times, "q"),)))
            self.check(NO, proof)
            self.assertEqual(height_of(cut_short(NO, proof)), times)
            twice = ("rule", 0, (no(times, "q"),), (proof,))
            self.check(NO, ("rule", 1, (no(times, "q"),), (twice,)))

    def test_edges(self):
        self.assertEqual(cut_short(AND, P), P)
        self.check(AND, thinned(30, ALL[1]))
        book = read_book("maker m 1\nleft m: |\nright m: |\nmaker t 0\nright t:")
        self.check(book, ("rule", 0, ("q",), (("rule", 0, ("p",), (("rule", 2, (), ()),)),)))
        self.check(book, ("rule", 2, (), ()))
        silent = ("rule", 0, ("q",), (("thin", ((), (("m", "q"),)), ("rule", 1, ("r",), (P,))),))
        self.check(book, silent)

    def test_first_join(self):
        join = ("join", "p", P, P)
        for proof, at in ((join, 0), (("thin", ((), ()), join), 1), (("rule", 1, ("p", "q"), (ALL[1], join)), 3),
                          (("rule", 1, ("p", "q"), (("thin", ((), ()), join), join)), 2)):
            self.wrong(Refused, {"at": at}, cut_short, AND, proof)
            self.assertEqual(joined_sayings(AND, proof), ("p",) * words_of(proof).count("join"))

    def test_what_has_a_proof_without_joins_has_parts_of_its_end_alone(self):
        for book, proof in some_proofs(57, 100, joins=False, starts=False):
            end = end_of(book, proof)
            lot = in_order(set().union(*[parts(saying) for side in end for saying in side] or [set()]))
            for part in all_parts(cut_short(book, proof)):
                for side in end_of(book, part):
                    self.assertLessEqual(set(side), set(lot))

    def test_tonk_can_be_cut_short(self):
        proof = ("rule", 1, ("p", "q"), (("rule", 0, ("r", "p"), (P,)),))
        self.check(TONK, proof)


if __name__ == "__main__":
    unittest.main()
