"""[5] and [6]: sayings, sheets, their texts and fillings."""

import random
import unittest

from saymakers.errors import InvalidFilling, InvalidSaying, InvalidSheet, InvalidText
from saymakers.sayings import (
    closed_lot, fill_saying, fill_sheet, is_start, lies_within, put_beside, read_saying, read_sheet, saying_depth,
    saying_letters, saying_parts, saying_rank, saying_text, sheet_parts, sheet_text)
from tests.tools import EMPTY, Wrong, in_order, is_all_tuples, listed, parts

DEEP = "p"
for _ in range(30):
    DEEP = ("no", DEEP)


def wide(names):
    """A saying of just so many names, at least 4, few makers deep."""
    if names <= 3:
        return {1: "p", 2: ("n", "p"), 3: ("m", "p", "q")}[names]
    rest = names - 1
    return ("w", wide(rest // 3), wide(rest // 3), wide(rest - 2 * (rest // 3)))


NO_SAYINGS = (
    0, 1, True, None, "", "P", "pq1", "abcdefghi", "p q", " p", "a\u00e9", "\u0101", (), [], ("",), (1,), ("no", 1),
    ("m", "p", "p", "p", "p"), ("no", ("no", None)), ("No", "p"), (("no",), "p"), ("no", ()), ("no", "p q"), EMPTY,
    ("no", EMPTY), ("no", DEEP), wide(401), ("m", wide(200), wide(200)), ("no", "abcdefghi"), (None,), ("no", True),
)


class SayingsTest(Wrong, unittest.TestCase):
    def test_texts(self):
        self.assertEqual(saying_text("p"), "p")
        self.assertEqual(saying_text(("and", "p", ("not", "q"))), "and(p, not(q))")
        self.assertEqual(saying_text(["and", "p", ["not", "q"]]), "and(p, not(q))")
        self.assertEqual(saying_text(("top",)), "top()")
        self.assertEqual(saying_text(("most", "abcdefgh", "b", ("top",))), "most(abcdefgh, b, top())")

    def test_rank_and_depth(self):
        self.assertEqual(saying_rank("p"), (1, "p"))
        self.assertEqual(saying_rank(["and", "p", ["not", "q"]]), (4, "and(p, not(q))"))
        self.assertEqual([saying_depth(each) for each in ("p", ("top",), ("and", "p", ("no", "q")), DEEP)],
                         [0, 1, 2, 30])
        self.assertEqual(saying_rank(wide(400))[0], 400)

    def test_parts(self):
        whole = ("and", ("no", "q"), ("and", "q", "p"))
        self.assertEqual(saying_parts(whole), ("p", "q", ("no", "q"), ("and", "q", "p"), whole))
        self.assertEqual(saying_letters(listed(whole)), ("p", "q"))
        self.assertEqual(saying_letters(("top",)), ())
        self.assertEqual(closed_lot([]), ())
        self.assertEqual(closed_lot([["no", "q"], "p", ("no", "q"), "q"]), ("p", "q", ("no", "q")))
        self.assertEqual(saying_parts(DEEP)[-1], DEEP)
        self.assertEqual(len(saying_parts(DEEP)), 31)
        self.assertEqual(saying_parts(wide(400)), in_order(parts(wide(400))))

    def test_order_is_by_many_names_then_text(self):
        lot = closed_lot([("b",), "a", ("aa", "p"), "zz", ("m", "p", "p")])
        self.assertEqual(lot, ("a", ("b",), "p", "zz", ("aa", "p"), ("m", "p", "p")))
        self.assertEqual(saying_rank(("b",)), (1, "b()"))

    def test_fillings(self):
        self.assertEqual(fill_saying(("and", "p", "q"), [("p", "q"), ["q", ["no", "p"]]]), ("and", "q", ("no", "p")))
        self.assertEqual(fill_saying("p", ()), "p")
        self.assertEqual(fill_saying(("p", "p"), [("p", "r")]), ("p", "r"))
        self.assertEqual(fill_saying("p", [("q", "r")]), "p")
        for filling, at in ((None, -1), ("pq", -1), (5, -1), ([("p",)], 0), ([("p", "q"), "ab"], 1),
                            ([("p", "q"), ("p", "q")], 1), ([("p", "q"), (("no", "p"), "q")], 1),
                            ([("p", "Q")], 0), ([("q", "p"), ("p", ["no"]), (1, 2)], 2), ([("p", "q", "r")], 0),
                            ([("p", "q"), ("q", "p"), ("p", "r")], 2), ([EMPTY], 0), ([([], "p")], 0)):
            self.wrong(InvalidFilling, {"at": at}, fill_saying, "p", filling)
            self.wrong(InvalidFilling, {"at": at}, fill_sheet, (["p"], []), filling)

    def test_fillings_too_great(self):
        self.assertEqual(saying_depth(fill_saying(("no", "p"), [("p", DEEP[1])])), 30)
        self.wrong(InvalidSaying, {"at": -1}, fill_saying, ("no", "p"), [("p", DEEP)])
        self.assertEqual(saying_rank(fill_saying(("m", "p", "q"), [("p", wide(200)), ("q", wide(199))]))[0], 400)
        self.wrong(InvalidSaying, {"at": -1}, fill_saying, ("m", "p", "q"), [("p", wide(200)), ("q", wide(200))])
        self.wrong(InvalidSaying, {"at": -1}, fill_saying, wide(400), [("p", wide(400))])
        self.wrong(InvalidSheet, {"at": -1}, fill_sheet, ([], ["q", ("no", "p")]), [("p", DEEP)])
        self.wrong(InvalidSheet, {"at": -1}, fill_sheet, ([("m", "p", "p")], []), [("p", wide(200))])

    def test_wrong_sayings(self):
        for value in NO_SAYINGS:
            for call in (saying_depth, saying_text, saying_rank, saying_parts, saying_letters):
                self.wrong(InvalidSaying, {"at": -1}, call, value)
            self.wrong(InvalidSaying, {"at": -1}, closed_lot, ["p", value])
            self.wrong(InvalidSaying, {"at": -1}, fill_saying, value, None)
        for value in (None, 5, "p", EMPTY):
            self.wrong(InvalidSaying, {"at": -1}, closed_lot, value)

    def test_texts_are_read_back(self):
        rng = random.Random(5)

        def some(deep):
            if not deep or rng.random() < 0.3:
                return rng.choice(("p", "q", "abcdefgh"))
            return (rng.choice(("and", "no", "p")),) + tuple(some(deep - 1) for _ in range(rng.randint(0, 3)))

        def spaced(text):
            for sign in "(),":
                text = text.replace(sign, " " * rng.randint(0, 2) + sign + " " * rng.randint(0, 2))
            return " " * rng.randint(0, 2) + text + " " * rng.randint(0, 2)
        for _ in range(300):
            saying = some(4)
            self.assertEqual(read_saying(saying_text(saying)), saying)
            self.assertEqual(read_saying(spaced(saying_text(saying))), saying)
        self.assertEqual(read_saying(saying_text(DEEP)), DEEP)
        self.assertEqual(read_saying(saying_text(wide(400))), wide(400))
        self.assertEqual(read_saying("m(p,q,r)"), ("m", "p", "q", "r"))
        deep = "m(p, " * 30 + "q" + ")" * 30
        self.assertEqual(saying_text(read_saying(deep)), deep)
        self.assertEqual(saying_depth(read_sheet("p, " + deep + "|")[0][1]), 30)

    def test_wrong_texts(self):
        for text, at in (
                ("", 0), ("   ", 3), ("P", 0), ("  7", 2), ("p q", 2), ("p  q", 3), ("p)", 1), ("and(p", 5),
                ("and(", 4), ("and(p,", 6), ("and(p, ", 7), ("and(,p)", 4), ("and(p,,q)", 6), ("and(p q)", 6),
                ("and(p,)", 6), ("m(a,b,c,d)", 7), ("m(a,b,c , d)", 8), ("abcdefghi", 8), ("no(abcdefghi)", 11),
                ("p|", 1), ("p\n", 1), ("\np", 0), ("p,q", 1), ("()", 0), ("a()()", 3), ("a()b", 3), ("a(\tb)", 2),
                ("aB", 1), ("\u00e9", 0), ("a\u00a0", 1), ("no(no(p)", 8),
                ("a(" * 31 + "p" + ")" * 31, 61), ("a(" * 30 + "p (" + ")" * 31, 62), ("a(" * 30 + "P", 60),
                ("m(p, " * 30 + "a(p", 151), ("m(p,q," * 30 + "a()", 181), ("m(p)" + "(p)", 4),
                (saying_text(wide(400)).replace("(p", "(p(p)", 1), len(saying_text(wide(400))) + 3),
                (saying_text(wide(400)).replace("(p", "(p(p)", 1) + ")", len(saying_text(wide(400))) + 3)):
            self.wrong(InvalidText, {"at": at}, read_saying, text)
        for value in (None, 5, True, ["p"], ("p",), EMPTY):
            self.wrong(InvalidText, {"at": -1}, read_saying, value)
            self.wrong(InvalidText, {"at": -1}, read_sheet, value)


class SheetsTest(Wrong, unittest.TestCase):
    def test_texts(self):
        for text, sheet in (("p, q | r", (("p", "q"), ("r",))), ("| r", ((), ("r",))), ("p |", (("p",), ())),
                            ("|", ((), ())), ("no(p), and(p, q) | top()", ((("no", "p"), ("and", "p", "q")),
                                                                          (("top",),)))):
            self.assertEqual(read_sheet(text), sheet)
            self.assertEqual(sheet_text(sheet), text)
            self.assertEqual(sheet_text(listed(sheet)), text)
        self.assertEqual(read_sheet("  q ,p,q|p ,p  "), (("p", "q"), ("p",)))
        self.assertEqual(read_sheet(" |and( p ,q )"), ((), (("and", "p", "q"),)))
        self.assertEqual(sheet_text([["q", "p", "q"], []]), "p, q |")

    def test_wrong_texts(self):
        for text, at in (("", 0), ("  ", 2), ("p", 1), ("p ", 2), ("p q | r", 2), ("p, | r", 3), (", p |", 0),
                         ("p | q | r", 6), ("||", 1), ("p | q,", 6), ("p | q, ", 7), ("p | ,", 4), ("p | q)", 5),
                         ("p, q", 4), ("p |\n", 3), ("p | Q", 4), ("p; q |", 1), ("no(p | q)", 5),
                         ("p | " + "a(" * 31, 65), ("p, " + "a(" * 31, 64), ("|q, " + "a(" * 31, 65)):
            self.wrong(InvalidText, {"at": at}, read_sheet, text)
        great = "p | " + saying_text(wide(400)).replace("(p", "(p(p)", 1)
        self.wrong(InvalidText, {"at": len(great)}, read_sheet, great)
        self.wrong(InvalidText, {"at": len(great)}, read_sheet, great + "|")
        many = saying_text(wide(400)) + " | " + saying_text(wide(399)) + ", p"
        self.assertEqual(len(read_sheet(many)[1]), 2)

    def test_sheets_are_put_in_order(self):
        self.assertEqual(put_beside([["q", "p"], []], (("q",), (["no", "p"], "r"))), (("p", "q"), ("r", ("no", "p"))))
        self.assertEqual(put_beside(((), ()), ([], ())), ((), ()))
        self.assertTrue(is_all_tuples(put_beside([["q", ["no", "p"]], []], [[], []])))

    def test_lies_within(self):
        self.assertIs(lies_within(((), ()), (["p"], [])), True)
        self.assertIs(lies_within((["p"], ["q"]), (["q", "p", "p"], ["r", "q"])), True)
        self.assertIs(lies_within((["p"], []), ([], ["p"])), False)
        self.assertIs(lies_within((["p"], ["p"]), (["p"], [])), False)
        self.assertIs(lies_within(([["no", "p"]], []), ([("no", "p"), "q"], [])), True)

    def test_is_start(self):
        self.assertIs(is_start((["p", ["no", "q"]], ["r", ("no", "q")])), True)
        self.assertIs(is_start((["p"], ["q"])), False)
        self.assertIs(is_start(((), ())), False)

    def test_parts_and_fillings(self):
        self.assertEqual(sheet_parts(([("no", "q")], [("and", "p", "q"), ("top",)])),
                         ("p", "q", ("top",), ("no", "q"), ("and", "p", "q")))
        self.assertEqual(sheet_parts(((), ())), ())
        self.assertEqual(fill_sheet((["p", "q"], [("no", "p")]), [("p", "q"), ("q", "q")]), (("q",), (("no", "q"),)))
        self.assertEqual(fill_sheet((["p"], ["q"]), [["q", ["no", "p"]], ("p", "z")]), (("z",), (("no", "p"),)))

    def test_wrong_sheets(self):
        wrong = (None, 5, True, "p | q", (), [], ((),), ((), (), ()), ("p", "q"), (("p",), "q"), ((None,), ()), EMPTY,
                 ((), (("no", "P"),)), ([1], []), ([], [True]), (EMPTY, ()), ("no", ("p",)), ((("no", DEEP),), ()))
        for value in wrong:
            for call in (sheet_text, is_start, sheet_parts):
                self.wrong(InvalidSheet, {"at": -1}, call, value)
            self.wrong(InvalidSheet, {"at": -1}, fill_sheet, value, 5)
            for call in (put_beside, lies_within):
                self.wrong(InvalidSheet, {"at": 0}, call, value, ((), ()))
                self.wrong(InvalidSheet, {"at": 1}, call, ((), ()), value)
                self.wrong(InvalidSheet, {"at": 0}, call, value, value)


if __name__ == "__main__":
    unittest.main()
