"""[56]: records of each word, made, looked at again, and gone through."""

import random
import unittest

from saymakers.books import Book, read_book
from saymakers.careful import careful_holds, careful_paper
from saymakers.checker import make_record, record_holds, wrong_records
from saymakers.court import clash_steps, court_holds, court_paper, steps_hold
from saymakers.errors import (
    InvalidBook, InvalidFacts, InvalidPremises, InvalidSaying, InvalidSheet, InvalidSigned, InvalidSize, NoMaker, NotCalm,
    Refused, SayError)
from saymakers.facts import follow_holds, follow_paper
from saymakers.judge import sheet_holds, sheet_paper
from saymakers.made import writing_holds, writing_paper
from saymakers.mending import strike_holds, strike_paper
from saymakers.middles import middle_holds, some_middle
from saymakers.signproofs import signed_holds, signed_paper
from saymakers.signs import Signed, odds_hold, plain_signed, signed_court
from saymakers.wholly import whole_holds, whole_paper
from tests.some_proofs import random_saying
from tests.test_heaps import FAULTY, IF, OR, careful_book
from tests.test_signproofs import JOINED, ODDS, told
from tests.test_signs import random_signed
from tests.tools import (
    AND, EMPTY, JUNK, LOGIC, MAY, NO, TONK, Wrong, changed, is_all_tuples, is_same, listed, random_book, sheet_of)

FUNCTIONS = {
    "court": (court_paper, court_holds), "steps": (clash_steps, steps_hold), "sheet": (sheet_paper, sheet_holds),
    "follow": (follow_paper, follow_holds), "whole": (whole_paper, whole_holds), "strike": (strike_paper, strike_holds),
    "middle": (some_middle, middle_holds), "writing": (writing_paper, writing_holds),
    "careful": (careful_paper, careful_holds), "odds": (signed_court, odds_hold), "signed": (signed_paper, signed_holds)}
WRITTEN = read_book("maker and 2\nright and: | 1; | 2\nleft and: 1 2 |\nmaker dna 2\nright dna: | 1; | 2\nleft dna: 1 2 |")
TWO = ("and", "p", "q")
QUESTIONS = (
    ("court", (AND,)), ("court", (TONK,)), ("court", (EMPTY,)),
    ("steps", ((((), ()),),)), ("steps", ((((), (1,)), ((1,), ())),)),
    ("sheet", (AND, ((TWO,), ("p",)))), ("sheet", (AND, (("p",), (TWO,)))), ("sheet", (TONK, (("p",), ("q",)))),
    ("sheet", (TONK, ((), ("q",)))),
    ("follow", (AND, (((), ("p",)), ((), ("q",))), ((), (TWO,)))), ("follow", (AND, (((), ("p",)),), ((), (TWO,)))),
    ("whole", (AND, "and")), ("whole", (MAY, "may")), ("strike", (TONK, (3, 5))), ("strike", (AND, (1, 1))),
    ("middle", (AND, ((TWO,), ()), ((), ("q",)))), ("writing", (WRITTEN, "dna", ("and", "b", "a"))),
    ("writing", (WRITTEN, "dna", "a")), ("writing", (MAY, "may", "a")),
    ("careful", (OR, (((), ("p",)),), ((), (("or", "p", "q"),)))), ("careful", (NO, (), ((("no", ("no", "p")),), ("p",)))),
    ("odds", (JOINED,)), ("odds", (ODDS,)), ("signed", (JOINED, ((0, ("either",)),))), ("signed", (JOINED, ((1, ("either",)),))),
)



def random_question(rng, word):
    """Some question of the word, most of them right."""
    book = random_book(rng, rules=5, calm=None if word in ("court", "sheet", "strike") or rng.random() < 0.1 else True)
    lot = [random_saying(rng, book, 1) for _ in range(3)]

    def sheet():
        return sheet_of(rng.sample(lot, rng.choice((0, 1, 1, 2))), rng.sample(lot, rng.choice((0, 1, 1))))
    names = [name for name, places in book.makers]
    signed = random_signed(rng, rules=4)
    pairs = [(sign, saying) for saying in ("p", "q") for sign in range(signed.count)]
    if word == "steps":
        premises = [premise for name, side, own in book.rules for premise in own]
        return (tuple(rng.sample(premises, min(len(premises), 4))),)
    if word == "careful":
        book = careful_book(rng, [("m", 1)], 4, 2)
        return book, (((), ("p",)),)[:rng.randint(0, 1)], (("p",)[:rng.randint(0, 1)], ("q", ("m", "p"))[rng.randint(0, 1):][:1])
    return {"court": (book,), "sheet": (book, sheet()), "follow": (book, (sheet(), sheet()), sheet()),
            "whole": (book, rng.choice(names)), "strike": (book, tuple(rng.randint(1, 5) for _ in book.rules)),
            "middle": (book, sheet(), sheet()), "writing": (book, names[0], "a" if len(names) < 2 else (
                names[1],) + ("a",) * dict(book.makers)[names[1]]),
            "odds": (signed,), "signed": (signed, told(rng.sample(pairs, rng.randint(0, len(pairs)))))}[word]


class RecordsTest(Wrong, unittest.TestCase):
    def test_records_of_each_word(self):
        self.assertEqual({word for word, question in QUESTIONS}, set(FUNCTIONS))
        for word, question in QUESTIONS:
            record = make_record(word, question)
            self.assertTrue(is_same(record[:2], (word, question)) or record[1] == question)
            self.assertTrue(is_same(record[2], FUNCTIONS[word][0](*question)))
            self.assertIs(record_holds(record), True)
            self.assertIs(FUNCTIONS[word][1](*question, record[2]), True)
            self.assertTrue(is_all_tuples(record))
            turned = make_record(word, listed(question))
            self.assertEqual(turned, record)
            self.assertTrue(is_all_tuples(turned))
            self.assertEqual(make_record(word, tuple(listed(each) for each in question)), record)

    def test_records_that_are_made_hold(self):
        rng = random.Random(560)
        for word, (paper, holds) in FUNCTIONS.items():
            made = 0
            for _ in range(120):
                question = random_question(rng, word)
                try:
                    value = paper(*question)
                except SayError as error:
                    with self.assertRaises(type(error)) as caught:
                        make_record(word, listed(question))
                    self.assertEqual(vars(caught.exception), vars(error))
                    continue
                if value is None:
                    self.wrong(Refused, {"at": "paper"}, make_record, word, question)
                    continue
                record = make_record(word, listed(question))
                self.assertEqual(record, (word, question, value))
                self.assertIs(record_holds(record), True)
                made += 1
            self.assertGreater(made, 20, word)

    def test_values_of_other_questions(self):
        # Whether a record holds is what the latter function says, where it raises nothing of the package.
        rng = random.Random(561)
        met = {}
        for word, (paper, holds) in FUNCTIONS.items():
            records = []
            for _ in range(60):
                question = random_question(rng, word)
                try:
                    records.append((question, paper(*question)))
                except SayError:
                    records.append((question, None))
            for question, own in records[:25]:
                for _, value in records:
                    try:
                        right = holds(*question, value)
                    except SayError:
                        right = False
                    self.assertIs(record_holds((word, question, value)), right)
                    met[word, right] = True
        self.assertEqual(len(met), 22)

    def test_lists_at_any_depth(self):
        for word, question in QUESTIONS:
            record = make_record(word, question)
            for at in range(3):
                if isinstance(record[at], tuple) and record[at]:
                    self.assertIs(record_holds(record[:at] + (list(record[at]),) + record[at + 1:]), False)
                    if listed(record[at]) != list(record[at]):
                        self.assertIs(record_holds(record[:at] + (tuple(listed(each) for each in record[at]),) + record[at + 1:]),
                                      False)
            self.assertIs(record_holds(list(record)), False)
        # Lists that the function itself would take stand in no record.
        self.assertIs(court_holds(AND, court_paper(AND)), True)
        self.assertIs(sheet_holds(AND, [["p"], ["p"]], ("proof", ("start", "p"))), True)
        self.assertIs(record_holds(("sheet", (AND, (("p",), ("p",))), ("proof", ("start", "p")))), True)
        self.assertIs(record_holds(("sheet", (AND, (["p"], ("p",))), ("proof", ("start", "p")))), False)
        self.assertIs(record_holds(("strike", (TONK, [1, 1]), ("struck", (0,), ((1, 0, 1),)))), False)
        self.assertIs(record_holds(("strike", (TONK, (1, 1)), ("struck", (0,), ((1, 0, 1),)))), True)

    def test_any_values(self):
        for word, question in QUESTIONS:
            record = make_record(word, question)
            for value in list(JUNK) + [record[:2], record + (0,), (record,), (word.upper(),) + record[1:],
                                       (None,) + record[1:], ((word,),) + record[1:], (1,) + record[1:],
                                       (word, question + (0,), record[2]), (word, question[:-1], record[2]),
                                       (word, question[0], record[2]), (word, None, record[2]), (word, question, None),
                                       ("odd",) + record[1:], (word, question[::-1], record[2] if len(question) > 1 else 5)]:
                self.assertIs(record_holds(value), False, value)
            for value in list(JUNK) + list(changed(record[2]))[:60]:
                try:
                    right = FUNCTIONS[word][1](*question, value) and is_all_tuples(value)
                except SayError:
                    right = False
                self.assertIs(record_holds((word, question, value)), right, value)
            for other in JUNK:
                for at in range(len(question)):
                    asked = question[:at] + (other,) + question[at + 1:]
                    try:
                        right = FUNCTIONS[word][1](*asked, record[2]) and is_all_tuples(asked)
                    except SayError:
                        right = False
                    self.assertIs(record_holds((word, asked, record[2])), right, asked)

    def test_wrong_words_and_questions(self):
        for word in JUNK + ("Court", "courts", "COURT", ["court"], ("court",), EMPTY, "papers"):
            self.wrong(Refused, {"at": "word"}, make_record, word, None)
            self.wrong(Refused, {"at": "word"}, make_record, word, (AND,))
        for word, question in QUESTIONS:
            for other in (None, 5, "ab", (), [], question + (0,), question[:-1], list(question) + [0], EMPTY, True):
                self.wrong(Refused, {"at": "question"}, make_record, word, other)

    def test_errors_of_the_former(self):
        for word, question, error, attributes in (
                ("court", (5,), InvalidBook, {"at": -1}), ("steps", (5,), InvalidPremises, {"at": -1}),
                ("steps", ([[[], [1]], [[], [4]]],), InvalidPremises, {"at": 1}), ("sheet", (AND, "p"), InvalidSheet, {"at": -1}),
                ("sheet", (AND, (tuple("abcdefghijklmno"), ())), InvalidSize, {"word": "sayings"}),
                ("follow", (AND, [5], 5), InvalidFacts, {"at": 0}), ("follow", (TONK, [], ((), ())), NotCalm, {
                    "right": 1, "left": 0, "row": (1, 0)}),
                ("whole", (AND, "or"), NoMaker, {"name": "or"}), ("whole", [AND, ["or", [1]]], NoMaker, {"name": ("or", (1,))}),
                ("strike", (TONK, [1]), InvalidSize, {"word": "prices"}), ("middle", (AND, 5, 5), InvalidSheet, {"at": 0}),
                ("middle", (AND, ((), ()), 5), InvalidSheet, {"at": 1}), ("writing", (AND, "and", ("and", "a", "b")), InvalidSaying, {"at": 0}),
                ("careful", (FAULTY, (), 5), Refused, {"at": (1, 0)}), ("odds", (AND,), InvalidSigned, {"at": -1}),
                ("signed", (ODDS, ()), Refused, {"at": -1}), ("signed", (plain_signed(AND), 5), InvalidSheet, {"at": -1})):
            self.wrong(error, attributes, make_record, word, question)
            self.assertIs(record_holds((word, tuple(question), ("proof", ("start", "p")))), False)

    def test_papers_that_are_none(self):
        self.wrong(Refused, {"at": "paper"}, make_record, "steps", ((((), (1,)),),))
        self.wrong(Refused, {"at": "paper"}, make_record, "steps", [[]])
        self.wrong(Refused, {"at": "paper"}, make_record, "middle", (AND, (("p",), ()), ((), ("q",))))
        self.assertIs(record_holds(("steps", (((), (1,)),), None)), False)

    def test_values_are_taken_as_the_latter_takes_them(self):
        # Other values than the former tells, but such papers all the same.
        for record in (("court", (TONK,), ("nonsense", 1, 0, (1, 0))), ("strike", (TONK, (1, 1)), ("struck", (1,), ((1, 0, 1),))),
                       ("sheet", (AND, (("p",), ("p",))), ("thin", (("p",), ("p",)))),
                       ("sheet", (AND, (("p",), ("p",))), ("proof", ("thin", (("p",), ()), ("start", "p")))),
                       ("whole", (MAY, "may"), ("open", (0,))), ("careful", (IF, (), (("p",), ("p",))), ("proof", ("start", "p")))):
            self.assertIs(record_holds(record), record[2][0] != "thin")


class ManyTest(Wrong, unittest.TestCase):
    def test_wrong_records(self):
        rng = random.Random(562)
        records = [make_record(word, question) for word, question in QUESTIONS]
        self.assertEqual(wrong_records(records), ())
        self.assertEqual(wrong_records(tuple(records)), ())
        self.assertEqual(wrong_records([]), ())
        self.assertEqual(wrong_records(()), ())
        for _ in range(20):
            values, wrong = [], []
            for at in range(12):
                if rng.random() < 0.5:
                    values.append(rng.choice(records))
                else:
                    values.append(rng.choice(JUNK + (list(records[0]), records[0][:2], ("court", (AND,), ("calm",)))))
                    wrong.append(at)
            self.assertEqual(wrong_records(values), tuple(wrong))
            self.assertEqual(wrong_records(tuple(values)), tuple(wrong))
        self.assertEqual(wrong_records(listed(records)), tuple(range(len(records))))

    def test_no_sequence(self):
        for values in (None, 5, True, "", "court", EMPTY, LOGIC, plain_signed(AND), Signed(2, (), ())):
            self.wrong(Refused, {"at": "records"}, wrong_records, values)
        self.assertEqual(wrong_records(JUNK), tuple(range(len(JUNK))))

    def test_proofs_many_deep(self):
        # Proofs of 80 parts one within another are looked at, too.
        proof = ("start", "p")
        for _ in range(79):
            proof = ("thin", ((), ()), proof)
        self.assertIs(record_holds(("sheet", (AND, (("p",), ("p",))), ("proof", proof))), True)
        self.assertIs(record_holds(("sheet", (AND, (("p",), ("p",))), ("proof", ("thin", ((), ()), proof)))), False)
        for _ in range(21):
            proof = ("thin", ((), ()), proof)
        self.assertIs(record_holds(("careful", (AND, (), (("p",), ("p",))), ("proof", proof))), True)

    def test_largest(self):
        rng = random.Random(563)
        premises = [((1,), (2,)), ((2,), (1,)), ((), (1, 2)), ((1, 2), ())]
        for _ in range(10):
            book = Book([("m", 2), ("n", 2)], [(rng.choice("mn"), rng.choice(("left", "right")), rng.sample(premises, 2))
                                              for _ in range(5)])
            records = [make_record("court", [book]), make_record("strike", [book, [rng.randint(1, 5) for _ in book.rules]])]
            self.assertEqual(wrong_records(records), ())


if __name__ == "__main__":
    unittest.main()
