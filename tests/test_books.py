"""[7] and [8]: books, rows, tables."""

import unittest

from saymakers.books import (
    Book, all_rows, awake_rows, book_text, maker_table, premise_holds, put_rules, read_book, rule_awake,
    rule_premises, rule_saying, rule_text, struck_rules, told_truths, without_makers)
from saymakers.errors import (
    InvalidBook, InvalidMakers, InvalidPremises, InvalidRow, InvalidRules, InvalidSaying, InvalidSheet, InvalidSize,
    InvalidText, NoMaker, NoRule, Refused)
from tests.test_sayings import DEEP, NO_SAYINGS, wide
from tests.tools import (
    AND, EMPTY, JUNK, LOGIC, MAY, NO, TONK, Wrong, listed, premises_of, random_books, rows, sheet_of, tells, wakes)

RULE = ("and", "right", (((), (1,)), ((), (2,))))
MANY_MAKERS = [("m" + sign, 3) for sign in "abcdefghijklm"]


def unlike_rules(many):
    """So many unlike rules for a maker m of three places."""
    found = [("m", side, [one, other]) for side in ("left", "right") for one in premises_of(3)[:8]
             for other in premises_of(3)[8:16]]
    return found[:many]


class BookTest(Wrong, unittest.TestCase):
    def test_attributes_are_in_order_and_each_once(self):
        rules = [["tonk", "right", [[[], [1]]]], ("and", "left", [[[2, 1, 1], ()], ((1, 2), [])]),
                 ("tonk", "right", (((), (1,)),)), ("and", "left", []), ("tonk", "left", [((2,), ()), ((), ())])]
        book = Book([["tonk", 2], ("and", 2)], rules)
        self.assertEqual(book.makers, (("and", 2), ("tonk", 2)))
        self.assertEqual(book.rules, (
            ("and", "left", ()), ("and", "left", (((1, 2), ()),)), ("tonk", "left", (((), ()), ((2,), ()))),
            ("tonk", "right", (((), (1,)),))))
        self.assertEqual(Book(book.makers, book.rules), book)
        self.assertEqual((EMPTY.makers, EMPTY.rules), ((), ()))
        self.assertEqual(Book([], []), EMPTY)

    def test_equality(self):
        self.assertTrue(AND == read_book(book_text(AND)))
        self.assertFalse(AND != Book(AND.makers, AND.rules[::-1]))
        self.assertTrue(AND != struck_rules(AND, [0]))
        self.assertFalse(EMPTY == Book([("m", 0)], []))
        for other in ((AND.makers, AND.rules), None, 0, "", book_text(AND)):
            self.assertFalse(AND == other)
            self.assertTrue(AND != other)

    def test_wrong_makers(self):
        for makers, at in ((None, -1), ("and", -1), (EMPTY, -1), ({}, -1), (["and"], 0), ([("and", 2, 1)], 0),
                           ([("and",)], 0), ([("and", 4)], 0), ([("and", -1)], 0), ([("and", True)], 0),
                           ([("and", "2")], 0), ([("And", 2)], 0), ([("", 2)], 0), ([("abcdefghi", 2)], 0),
                           ([(("and",), 2)], 0), ([("and", 2), ("or", 2), ["and", 2]], 2), ([(1, 2)], 0),
                           ([("and", 2), ("and", 3), 5], 1), (MANY_MAKERS, 12), (MANY_MAKERS[:11] + [1, 2], 11),
                           ([("a", None)], 0), ([([], 1)], 0), ([EMPTY], 0)):
            self.wrong(InvalidMakers, {"at": at}, Book, makers, None)
        self.assertEqual(len(Book(MANY_MAKERS[:12], []).makers), 12)

    def test_wrong_rules(self):
        good = ("m", "left", [((), (1,))])
        for rules, at in ((None, -1), ("m", -1), (5, -1), (EMPTY, -1), ([5], 0), ([good, ("m", "left")], 1),
                          ([("n", "left", [])], 0), ([("m", "up", [])], 0), ([("m", "left", None)], 0),
                          ([good, good, ("m", "left", [5])], 2), ([("m", "left", [((), ())[:1]])], 0),
                          ([("m", "left", [((), (3,))])], 0), ([("m", "left", [((0,), ())])], 0),
                          ([("m", "left", [((True,), ())])], 0), ([("m", "left", [("1", ())])], 0),
                          ([("m", "left", [((), (), ())])], 0), ([("m", "left", [((), ("1",))])], 0),
                          ([("m", 0, [])], 0), ([(["m"], "left", [])], 0), ([("m", "left", [], [])], 0),
                          ([("m", "left", (1, 2))], 0), ([good] * 61, 60), ([good] * 59 + [5, good, good], 59),
                          ([good] * 60 + [5], 60), ([("m", ["left"], [])], 0), ([("m", "left", [EMPTY])], 0),
                          ([("m", "left", [(1, 2)])], 0), ([("m", "left", [((), "")])], 0)):
            self.wrong(InvalidRules, {"at": at}, Book, [("m", 2)], rules)
        self.assertEqual(len(Book([("m", 2)], [good] * 60).rules), 1)
        self.assertEqual(len(Book([("m", 3)], unlike_rules(60)).rules), 60)
        self.wrong(InvalidRules, {"at": 0}, Book, [("m", 0)], [("m", "left", [((1,), ())])])
        self.assertEqual(Book([("m", 0)], [("m", "left", [((), ())])]).rules, (("m", "left", (((), ()),)),))

    def test_maker_places_and_rules_of(self):
        self.assertEqual([AND.maker_places("and"), LOGIC.maker_places(name="top"), LOGIC.maker_places("most")],
                         [2, 0, 3])
        self.assertEqual((AND.rules_of("and", "left"), AND.rules_of(name="and", side="right")), ((0,), (1,)))
        self.assertEqual(LOGIC.rules_of("so", "left"), ())
        book = Book([("m", 1), ("n", 1)], [("m", "left", []), ("n", "right", []), ("n", "left", []),
                                           ("n", "right", [((), (1,))])])
        self.assertEqual((book.rules_of("n", "right"), book.rules_of("n", "left")), ((2, 3), (1,)))
        for name in ("or", 5, None, [], ["and"], EMPTY, True, ("and",)):
            self.wrong(NoMaker, {"name": name}, AND.maker_places, name)
            self.wrong(NoMaker, {"name": name}, AND.rules_of, name, "up")
        for side in ("up", None, 0, ["left"], EMPTY):
            self.wrong(InvalidSize, {"word": "side"}, AND.rules_of, "and", side)

    def test_texts(self):
        text = "maker m 3\nmaker top 0\nleft m: |; | 1; 1 2 | 3\nright m: | 1; | 2\nleft top: |\nright top:"
        self.assertEqual(book_text(read_book(text)), text)
        self.assertEqual(book_text(EMPTY), "")
        self.assertEqual(rule_text(AND, ["and", "right", [[[], [2]], [[], [1]]]]), "right and: | 1; | 2")
        self.assertEqual(rule_text(AND, ("and", "left", ())), "left and:")
        self.assertEqual(rule_text(AND, ("and", "left", [((2, 1), (2,)), ((), ())])), "left and: |; 1 2 | 2")
        for value in JUNK + (("or", "left", []), ("and", "left", [((3,), ())])):
            self.wrong(InvalidRules, {"at": -1}, rule_text, AND, value)

    def test_read_book(self):
        for text, book in (
                ("", EMPTY), ("\n  \n", EMPTY), ("maker m 0", Book([("m", 0)], [])),
                ("right m:|1;2|\n  maker   m  2  \n\n left m :1  2|  ;  |2",
                 Book([("m", 2)], [("m", "right", [((), (1,)), ((2,), ())]), ("m", "left", [((1, 2), ()), ((), (2,))])])),
                ("left maker: |\nmaker maker 1\nmaker left 1\nleft left:\nright left:|1",
                 Book([("maker", 1), ("left", 1)], [("maker", "left", [((), ())]), ("left", "left", []),
                                                    ("left", "right", [((), (1,))])])),
                ("maker m 3\nleft m: 3 1 1 | 2\nleft m: 1 3 | 2", Book([("m", 3)], [("m", "left", [((1, 3), (2,))])]))):
            self.assertEqual(read_book(text), book)
        for book in random_books(60, 7):
            self.assertEqual(read_book(book_text(book)), book)
            self.assertEqual(read_book("\n".join(reversed(book_text(book).split("\n")))), book)

    def test_wrong_texts_of_books(self):
        good = "maker m 2\n"
        for line in ("maker m", "maker m 2 2", "maker n 4", "maker n -1", "maker n 02", "maker N 2", "maker abcdefghi 1",
                     "maker m 2", "maker m 1", "n", "left", "left m", "left m: ;", "left m: | 1;", "left m: 1", ":",
                     "left m: 12 |", "left m: 0 |", "left m: 4 |", "left m: 1 | 2 | 1", "left m: | 1: | 2", "m left: |",
                     "up m: |", "up n 2", "Maker n 2", "makers n 2", "left m m: |", "left: |", "leftm: |", "left m: a |", "left m: 1, 2 |", "maker n:1",
                     "left m: |\t", "left m: \u0661 |", "maker n \u0661", "left m: | 1 ; ; | 2", "left M: |", "\r"):
            self.wrong(InvalidText, {"at": 1}, read_book, good + line)
            self.wrong(InvalidText, {"at": 2}, read_book, "left n:\n" + good + line + "\nup")
        for text, at in ((good + "left n:", 1), ("left m: 3 |\n" + good, 0), (good + "\nleft m:\nright m: | 1; 3 |", 3),
                         ("left m: 1 |\nmaker m 0\nleft n:", 0), ("left n:", 0)):
            self.wrong(InvalidText, {"at": at}, read_book, text)
        for value in (None, 5, True, ["maker m 2"], ("maker m 2",), EMPTY):
            self.wrong(InvalidText, {"at": -1}, read_book, value)
        makers = "\n".join(f"maker {name} {places}" for name, places in MANY_MAKERS)
        self.wrong(InvalidMakers, {"at": 12}, read_book, makers)
        self.wrong(InvalidText, {"at": 13}, read_book, makers + "\nup")
        rules = "\n".join(["left m:"] * 61 + ["maker m 1"])
        self.wrong(InvalidRules, {"at": 60}, read_book, rules)
        self.assertEqual(read_book(rules[8:]).rules, (("m", "left", ()),))

    def test_without_makers(self):
        book = without_makers(LOGIC, ["and", "top", "and"])
        self.assertEqual([name for name, places in book.makers], ["if", "most", "no", "or", "so"])
        self.assertEqual(book.rules, tuple(rule for rule in LOGIC.rules if rule[0] not in ("and", "top")))
        self.assertEqual(without_makers(AND, ()), AND)
        self.assertEqual(without_makers(AND, ("and",)), EMPTY)
        for names, name in ((None, None), ("and", "and"), (5, 5), (["and", "or", 5], "or"), ([["and"]], ["and"]),
                            ([1], 1), (EMPTY, EMPTY)):
            self.wrong(NoMaker, {"name": name}, without_makers, AND, names)

    def test_put_rules(self):
        more = put_rules(TONK, [["tonk", "left", []], ("tonk", "right", [((), [1])]), ("tonk", "left", ())])
        self.assertEqual(more.rules, (("tonk", "left", ()),) + TONK.rules)
        self.assertEqual(put_rules(TONK, ()), TONK)
        self.assertEqual(put_rules(book=TONK, rules=TONK.rules), TONK)
        for rules, at in ((None, -1), ("x", -1), ([("tonk", "left", []), ("and", "left", [])], 1), ([5], 0),
                          ([("tonk", "left", [])] * 61, 60)):
            self.wrong(InvalidRules, {"at": at}, put_rules, TONK, rules)
        many = Book([("m", 3)], unlike_rules(59))
        rules = unlike_rules(61)
        self.assertEqual(len(put_rules(many, [rules[59]] * 2).rules), 60)
        self.wrong(InvalidRules, {"at": 60}, put_rules, many, [rules[60], rules[59]])
        self.wrong(InvalidRules, {"at": 1}, put_rules, many, [rules[60], 5, rules[59]])

    def test_struck_rules(self):
        self.assertEqual(struck_rules(AND, [1, 1]).rules, AND.rules[:1])
        self.assertEqual(struck_rules(AND, (1, 0)), Book(AND.makers, ()))
        self.assertEqual(struck_rules(AND, ()), AND)
        for numbers, number in ((None, None), (0, 0), ("0", "0"), ([0, 2, 5], 2), ([-1], -1), ([True], True),
                                (["0"], "0"), ([[0]], [0]), (EMPTY, EMPTY)):
            self.wrong(NoRule, {"number": number}, struck_rules, AND, numbers)

    def test_no_books(self):
        for value in JUNK:
            if isinstance(value, Book):
                continue
            for call, args in ((rule_awake, (None, None)), (awake_rows, (None,)), (told_truths, (None, None)),
                               (maker_table, (None,)), (rule_saying, (None, None)), (book_text, ()),
                               (rule_premises, (None, None, None)), (without_makers, (None,)), (put_rules, (None,)),
                               (struck_rules, (None,)), (rule_text, (None,))):
                self.wrong(InvalidBook, {"at": -1}, call, value, *args)


class RowsTest(Wrong, unittest.TestCase):
    def test_all_rows(self):
        for places in range(4):
            self.assertEqual(all_rows(places), tuple(rows(places)))
        for value in (-1, 4, True, None, "2", [2], EMPTY):
            self.wrong(InvalidSize, {"word": "places"}, all_rows, value)

    def test_premise_holds(self):
        for premise in premises_of(3):
            for row in rows(3):
                self.assertIs(premise_holds(premise, row), wakes([premise], row))
                self.assertIs(premise_holds(premise=listed(premise), row=list(row)), wakes([premise], row))
        self.assertIs(premise_holds(((), ()), ()), False)
        self.assertIs(premise_holds(([2, 1, 2], []), [1, 0]), True)
        for row in (None, 5, "01", (2,), (True,), [0, None], [[0]], EMPTY, (-1,)):
            self.wrong(InvalidRow, {"at": -1}, premise_holds, None, row)
        for premise in (None, ((),), ((), (3,)), ((0,), ()), ((), (True,)), ("1", ()), ((), (), ()), EMPTY, ([[1]], []),
                        (1, 2), ("", ""), (None, ()), ((), ""), ((), 2), (EMPTY, ())):
            self.wrong(InvalidPremises, {"at": -1}, premise_holds, premise, (0, 1))
        self.wrong(InvalidPremises, {"at": -1}, premise_holds, ((), (1,)), ())

    def test_awake(self):
        for book in random_books(80, 11):
            for number, (name, side, premises) in enumerate(book.rules):
                right = tuple(row for row in rows(book.maker_places(name)) if wakes(premises, row))
                self.assertEqual(awake_rows(book, number), right)
                for row in rows(book.maker_places(name)):
                    self.assertIs(rule_awake(book, book.rules[number], row), row in right)
                    self.assertIs(rule_awake(book, listed(book.rules[number]), list(row)), row in right)
        self.assertIs(rule_awake(TONK, ("tonk", "left", []), (0, 0)), True)
        self.assertIs(rule_awake(TONK, ("tonk", "left", [((), ())]), (1, 1)), False)
        self.assertEqual(awake_rows(LOGIC, LOGIC.rules_of("top", "right")[0]), ((),))
        for rule in JUNK + (("and", "left", []), ("tonk", "left", [((3,), ())])):
            self.wrong(InvalidRules, {"at": -1}, rule_awake, TONK, rule, None)
        for row in (None, (), (0,), (0, 1, 0), (0, 2), (0, True), "01", ((0, 1),)):
            self.wrong(InvalidRow, {"at": -1}, rule_awake, TONK, TONK.rules[0], row)
            self.wrong(InvalidRow, {"at": -1}, told_truths, TONK, "tonk", row)
        for number in (-1, 2, True, None, "0", [0], EMPTY):
            self.wrong(NoRule, {"number": number}, awake_rows, TONK, number)
            self.wrong(NoRule, {"number": number}, rule_saying, TONK, number, None)
            self.wrong(NoRule, {"number": number}, rule_premises, TONK, number, None, None)

    def test_tables(self):
        for book in random_books(120, 12) + [LOGIC, MAY, NO]:
            for name, places in book.makers:
                told = [tuple(sorted(tells(book, name, row))) for row in rows(places)]
                self.assertEqual([told_truths(book, name, row) for row in rows(places)], told)
                if (0, 1) in told:
                    self.wrong(Refused, {"at": told.index((0, 1))}, maker_table, book, name)
                else:
                    self.assertEqual(maker_table(book, name), tuple((each or (None,))[0] for each in told))
        self.assertEqual(maker_table(LOGIC, "if"), (1, 1, 0, 1))
        self.assertEqual(maker_table(LOGIC, "top"), (1,))
        self.assertEqual(maker_table(MAY, "may"), (None, 1))
        for name in ("or", None, 5, ["and"]):
            self.wrong(NoMaker, {"name": name}, told_truths, AND, name, None)
            self.wrong(NoMaker, {"name": name}, maker_table, AND, name)

    def test_rule_saying(self):
        self.assertEqual(rule_saying(AND, 0, ["p", ["and", "p", "p"]]), ("and", "p", ("and", "p", "p")))
        self.assertEqual(rule_saying(LOGIC, LOGIC.rules_of("top", "right")[0], ()), ("top",))
        for sayings in (None, "pq", ["p"], ("p", "q", "r"), 5, EMPTY):
            self.wrong(InvalidSaying, {"at": -1}, rule_saying, AND, 0, sayings)
        for value in NO_SAYINGS + (("or", "p", "q"), ("and", "p"), ("and", "p", ("no", "p")), ("and",),
                                  ("and", ("no", "p"), "p")):
            self.wrong(InvalidSaying, {"at": 1}, rule_saying, AND, 0, ("p", value))
            self.wrong(InvalidSaying, {"at": 0}, rule_saying, AND, 0, (value, value))
            self.wrong(InvalidSaying, {"at": 1}, rule_premises, AND, 0, ("p", value), None)
        self.assertEqual(rule_saying(NO, 0, [DEEP[1]]), DEEP)
        self.wrong(InvalidSaying, {"at": -1}, rule_saying, NO, 0, [DEEP])
        book = read_book("maker m 2\nmaker n 1\nmaker w 3\nleft m:")
        self.wrong(InvalidSaying, {"at": -1}, rule_saying, book, 0, [wide(200), wide(200)])
        self.assertEqual(rule_saying(book, 0, [wide(200), wide(199)])[1], wide(200))

    def test_rule_premises(self):
        whole = ("and", "p", ("and", "q", "r"))
        self.assertEqual(rule_premises(AND, 1, whole[1:], (["s"], [whole])),
                         (sheet_of("s", ["p", whole]), sheet_of("s", [("and", "q", "r"), whole])))
        self.assertEqual(rule_premises(AND, 0, listed(whole[1:]), listed(((whole, "q"), ()))),
                         (sheet_of(["p", ("and", "q", "r"), whole, "q"], ()),))
        self.assertEqual(rule_premises(LOGIC, LOGIC.rules_of("top", "right")[0], (), ((), (("top",),))), ())
        self.assertEqual(rule_premises(Book([("m", 2)], [("m", "left", [((1, 2), (2,)), ((), ())])]), 0, ["p", "p"],
                                       ([("m", "p", "p")], ["p"])),
                         (((("m", "p", "p"),), ("p",)), (("p", ("m", "p", "p")), ("p",))))
        for sheet in JUNK[:20] + ((["p"], ["Q"]), ([("or", "p", "q")], []), ([("and", "p")], [])):
            if sheet != ((), ()):
                self.wrong(InvalidSheet, {"at": -1}, rule_premises, AND, 0, ("p", "q"), sheet)
        for sheet in (([], []), ([], [("and", "p", "q")]), ([("and", "q", "p")], [])):
            self.wrong(Refused, {"at": -1}, rule_premises, AND, 0, ("p", "q"), sheet)
        self.wrong(Refused, {"at": -1}, rule_premises, NO, 0, [DEEP], ([DEEP], [DEEP]))
        self.wrong(InvalidSheet, {"at": -1}, rule_premises, NO, 0, [DEEP], 5)
        self.wrong(InvalidSaying, {"at": -1}, rule_premises, NO, 0, [], 5)


if __name__ == "__main__":
    unittest.main()
