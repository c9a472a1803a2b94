"""The document's examples, each by itself and all together."""

import doctest
import pathlib
import re
import unittest

EXAMPLES = {
    "chapter 1": """
    >>> from saymakers.books import read_book
    >>> from saymakers.court import court_paper
    >>> court_paper(read_book("maker tonk 2\\nright tonk: | 1\\nleft tonk: 2 |"))
    ('nonsense', 1, 0, (1, 0))
    """,
    "chapter 4": """
    >>> from saymakers.books import read_book
    >>> from saymakers.court import bad_pairs, even_truths, is_calm, steps_hold
    >>> tonk = read_book("maker tonk 2\\nright tonk: | 1\\nleft tonk: 2 |")
    >>> bad_pairs(tonk), even_truths(tonk)
    (((1, 0, ((1, 0),)),), (0, 1))
    >>> is_calm(read_book("maker and 2\\nright and: | 1; | 2\\nleft and: 1 2 |"))
    True
    >>> steps_hold([((), (1,)), ((), (2,)), ((1, 2), ())], ((0, 2, 1), (1, 3, 2)))
    True
    """,
    "chapter 5": """
    >>> from saymakers.books import read_book
    >>> from saymakers.detours import without_joins
    >>> from saymakers.proofs import proof_end, proof_height
    >>> book = read_book("maker no 1\\nright no: 1 |\\nleft no: | 1")
    >>> one = ("rule", 1, ("q",), (("start", "q"),))
    >>> other = ("rule", 0, ("q",), (("start", "q"),))
    >>> proof_end(book, ("join", ("no", "q"), one, other))
    (('q',), ('q',))
    >>> proof_height(book, without_joins(book, ("join", ("no", "q"), one, other)))
    0
    """,
    "chapter 6": """
    >>> from saymakers.books import read_book
    >>> from saymakers.judge import fewest_uses, sheet_paper
    >>> from saymakers.worlds import world_count
    >>> book = read_book("maker and 2\\nright and: | 1; | 2\\nleft and: 1 2 |\\nmaker may 1\\nright may: | 1")
    >>> sheet_paper(book, ((("and", "p", "q"),), (("may", "q"),)))[0]
    'proof'
    >>> sheet_paper(book, ((("may", "p"),), ("p",)))
    ('world', (('p', 0), (('may', 'p'), 1)))
    >>> fewest_uses(book, ((("and", "p", "q"),), (("and", "q", "p"),)))[0], world_count(book, [("may", "p")])
    (2, 3)
    """,
    "chapter 7": """
    >>> from saymakers.books import Book
    >>> from saymakers.facts import break_lots, reason_lots, unfolded_sheets
    >>> facts, goal = [(("p",), ("q",)), (("q",), ("r",)), ((), ("r",))], (("p",), ("r",))
    >>> reason_lots(Book((), ()), facts, [goal]), [lot for lot, world in break_lots(Book((), ()), facts, [goal])]
    (((0, 1), (2,)), [(0, 2), (1, 2)])
    >>> unfolded_sheets(facts[:1], (("s",), ("r",)))
    ((('q', 's'), ('r',)), (('s',), ('p', 'r')))
    """,
    "chapter 8": """
    >>> from saymakers.books import read_book
    >>> from saymakers.wholly import letters_paper, whole_paper
    >>> book = read_book("maker may 1\\nright may: | 1")
    >>> whole_paper(book, "may")
    ('open', (0,))
    >>> letters_paper(book, ((("may", "p"),), (("may", "p"),)))
    ('half', (('p', 0), (('may', 'p'), 2)))
    """,
    "chapter 10": """
    >>> from saymakers.books import read_book
    >>> from saymakers.more import built_paper, fresh_sheet, least_joins
    >>> book, rule = read_book("maker m 2\\nright m: | 2"), ("m", "right", [((), (1, 2)), ((1,), (2,))])
    >>> built_paper(book, rule, ()), least_joins(book, rule)
    (('bars', (None, 0)), ((1,),))
    >>> fresh_sheet(book, ("m", "right", [((), (1,))]))
    (('q',), ('r', ('m', 'q', 'r')))
    """,
    "chapter 11": """
    >>> from saymakers.books import book_text, read_book
    >>> from saymakers.mending import bad_rows, least_lots, narrowed_book, strike_paper
    >>> tonk = read_book("maker tonk 2\\nright tonk: | 1\\nleft tonk: 2 |")
    >>> bad_rows(tonk), least_lots(tonk), strike_paper(tonk, [2, 1])
    ((('tonk', (1, 0)),), ((0,), (1,)), ('struck', (1,), ((1, 0, 1),)))
    >>> print(book_text(narrowed_book(tonk, ["left"])))
    maker tonk 2
    left tonk: 2 |
    right tonk: | 1; 1 | 2
    """,
    "chapter 12": """
    >>> from saymakers.books import read_book
    >>> from saymakers.middles import common_atoms, middle_count, middle_holds, some_middle
    >>> from saymakers.sayings import read_sheet
    >>> book = read_book("maker and 2\\nmaker so 1\\nright and: | 1; | 2\\nleft and: 1 2 |")
    >>> first, second = read_sheet("and(p, and(q, so(q))) |"), read_sheet("and(so(q), r) | and(q, s)")
    >>> common_atoms(book, first, second), some_middle(book, first, second)
    (('q', ('so', 'q')), None)
    >>> third = read_sheet("r | and(so(q), q)")
    >>> middle_holds(book, first, third, (((), ("q",)), ((), (("so", "q"),))))
    True
    >>> middle_count(book, first, third)
    1
    """,
    "chapter 13": """
    >>> from saymakers.books import read_book
    >>> from saymakers.columns import shortest_writing
    >>> told = "maker imp 2\\nright imp: 1 | 2\\nleft imp: | 1; 2 |\\nmaker half 1\\nleft half: | 1\\n"
    >>> book = read_book(told + "maker not 1\\nright not: 1 |\\nleft not: | 1")
    >>> shortest_writing(book, "not", ["half", "imp"])
    ('writing', ('imp', 'a', ('half', 'a')))
    """,
    "chapter 16, live": """
    >>> from saymakers.live import Live
    >>> live = Live()
    >>> live.put_maker("tonk", 2), live.put_rule(("tonk", "right", [((), (1,))]))
    (None, None)
    >>> live.ask_sheet((["p"], [("tonk", "p", "q")]))[0], live.ask_sheet((["p"], ["q"]))[0]
    ('tree', 'world')
    >>> live.put_rule(("tonk", "left", [((1,), ())])), live.tell_fact((["p"], ["q"])), live.turned_sheets()
    (None, None, ((('p',), ('q',)),))
    """,
    "chapter 16, desk": """
    >>> from saymakers.desk import Desk
    >>> desk = Desk()
    >>> [desk.say(line) for line in ("start", "maker tonk 2", "right tonk: | 1", "asks p | tonk(p, q)")]
    ['done', 'done', 'done', 'yes']
    >>> print(desk.say("proof p | tonk(p, q)"))
    0: p | p by start
    1: p | tonk(p, q) by rule 0 from 0
    """,
}
DOCUMENT = pathlib.Path(__file__).resolve().parent.parent.parent / "shared" / "DOC.md"


class ExamplesTest(unittest.TestCase):
    def test_examples(self):
        parser, runner = doctest.DocTestParser(), doctest.DocTestRunner(verbose=False)
        for name, text in EXAMPLES.items():
            with self.subTest(name):
                failed, tried = runner.run(parser.get_doctest(text, {}, name, None, 0), out=lambda told: None)
                self.assertEqual(failed, 0)
                self.assertGreater(tried, 0)
            runner = doctest.DocTestRunner(verbose=False)

    @unittest.skipUnless(DOCUMENT.exists(), "the document is not there")
    def test_the_document_itself(self):
        tried = 0
        for chapter in re.split("(?m)^## ", DOCUMENT.read_text()):
            runner = doctest.DocTestRunner(verbose=False)
            shown = []
            test = doctest.DocTestParser().get_doctest(chapter, {}, chapter[:20], None, 0)
            self.assertEqual(runner.run(test, out=shown.append).failed, 0, shown)
            tried += len(test.examples)
        self.assertGreater(tried, 60)


if __name__ == "__main__":
    unittest.main()
