"""[10] to [13]: calm books, clashes, nonsense, papers of the court."""

import random
import unittest

from saymakers.books import Book, put_rules, read_book, without_makers
from saymakers.court import (
    bad_pairs, clash_steps, court_holds, court_paper, even_truths, is_calm, need_calm, nonsense_proof, steps_hold)
from saymakers.errors import InvalidBook, InvalidPremises, InvalidSaying, NotCalm, Refused
from tests.test_books import unlike_rules
from tests.test_sayings import DEEP, NO_SAYINGS, wide
from tests.tools import (
    AND, EMPTY, JUNK, LOGIC, MAY, NO, TONK, XOR, Wrong, all_worlds, calm_by_tables, changed, end_sheet, height_of,
    in_order, is_all_tuples, is_kept, listed, premises_of, provable, random_book, random_books, rows, sheet_of, tells,
    wakes, words_of)

BOTH = read_book("maker top 0\nright top:\nleft top:")


def pairs_by_rows(book):
    """All bad pairs, found row by row."""
    found = []
    for right, (name, side, premises) in enumerate(book.rules):
        for left, (other, other_side, more) in enumerate(book.rules):
            if (side, other_side) == ("right", "left") and name == other:
                woken = tuple(row for row in rows(book.maker_places(name)) if wakes(premises + more, row))
                if woken:
                    found.append((right, left, woken))
    return tuple(found)


def follow(told, steps):
    """The place sheets after the steps, as pairs of sets."""
    made = [(set(left), set(right)) for left, right in told]
    for one, other, place in steps:
        assert place in made[one][1] and place in made[other][0]
        made.append((made[one][0] | (made[other][0] - {place}), (made[one][1] - {place}) | made[other][1]))
    return made


class CalmTest(Wrong, unittest.TestCase):
    def test_bad_pairs(self):
        self.assertEqual(bad_pairs(TONK), ((1, 0, ((1, 0),)),))
        self.assertEqual(bad_pairs(BOTH), ((1, 0, ((),)),))
        self.assertEqual(bad_pairs(EMPTY), ())
        for book in random_books(300, 21) + [AND, LOGIC, MAY]:
            self.assertEqual(bad_pairs(book), pairs_by_rows(book))
            self.assertIs(is_calm(book), calm_by_tables(book))

    def test_calm_exactly_if_each_maker_alone_is(self):
        for book in random_books(200, 22):
            names = [name for name, places in book.makers]
            alone = [without_makers(book, [other for other in names if other != name]) for name in names]
            self.assertIs(is_calm(book), all(map(is_calm, alone)))

    def test_need_calm(self):
        for book in random_books(200, 23):
            if is_calm(book):
                self.assertIs(need_calm(book), book)
            else:
                right, left, woken = bad_pairs(book)[0]
                self.wrong(NotCalm, {"right": right, "left": left, "row": woken[0]}, need_calm, book)

    def test_sixty_rules(self):
        book = Book([("m", 3)], unlike_rules(60))
        self.assertEqual(bad_pairs(book), pairs_by_rows(book))
        self.assertIs(court_holds(book, court_paper(book)), True)
        facing = [("m", side, [((), (k,)), ((k,), ()), more]) for side in ("left", "right")
                  for k in (1, 2, 3) for more in premises_of(3)[20:30]]
        calm = Book([("m", 3)], facing)
        self.assertEqual(len(calm.rules), 60)
        self.assertEqual(len(court_paper(calm)[1]), 900)
        self.assertIs(court_holds(calm, court_paper(calm)), True)

    def test_no_books(self):
        for value in JUNK:
            if not isinstance(value, Book):
                for call, args in ((bad_pairs, ()), (is_calm, ()), (need_calm, ()), (even_truths, ()), (court_paper, ()),
                                   (court_holds, (None,)), (nonsense_proof, (None, None))):
                    self.wrong(InvalidBook, {"at": -1}, call, value, *args)


class StepsTest(Wrong, unittest.TestCase):
    def some_sheets(self, seed, many):
        rng = random.Random(seed)
        for _ in range(many):
            places = rng.choice((1, 2, 2, 3, 3, 3))
            yield [rng.choice(premises_of(places)) for _ in range(rng.randint(0, 12))]

    def check(self, sheets):
        steps = clash_steps(sheets)
        if steps is None:
            self.assertTrue(any(wakes(sheets, row) for row in rows(3)))
            return
        self.assertFalse(any(wakes(sheets, row) for row in rows(3)))
        self.assertTrue(is_all_tuples(steps))
        self.assertLessEqual(len(steps), 26)
        made = follow(sheets, steps)
        self.assertEqual(made[-1] if steps else (set(), set()), (set(), set()))
        if ((), ()) in sheets:
            self.assertEqual(steps, ())
        used = [number for one, other, place in steps for number in (one, other)]
        for number in range(len(sheets), len(made) - 1):
            self.assertIn(number, used)
        for step, (one, other, place) in enumerate(steps):
            self.assertLess(max(one, other), len(sheets) + step)
        self.assertIs(steps_hold(sheets, steps), True)

    def test_just_a_row_or_steps(self):
        for sheets in self.some_sheets(24, 600):
            self.check(sheets)
            self.assertEqual(clash_steps(listed(sheets)), clash_steps(sheets))
        self.check(premises_of(3))
        self.check(premises_of(3)[1:] * 2)
        self.check([premise for premise in premises_of(3) if len(premise[0]) + len(premise[1]) == 3])
        for places in (1, 2, 3):
            self.check([(tuple(k for k in range(1, places + 1) if not row[k - 1]),
                         tuple(k for k in range(1, places + 1) if row[k - 1])) for row in rows(places)])

    def test_edges(self):
        self.assertIsNone(clash_steps(()))
        self.assertIsNone(clash_steps([((1,), (1,))]))
        self.assertEqual(clash_steps([((1,), ()), ([], [])]), ())
        self.assertEqual(clash_steps([((1,), ()), ((), (1,))]), ((1, 0, 1),))
        self.assertEqual(clash_steps(sheets=[[[1, 1], []], [[], [1]]]), ((1, 0, 1),))

    def test_steps_hold(self):
        told = [((), (1,)), ((), (2,)), ((1, 2), ())]
        self.assertIs(steps_hold(told, ((0, 2, 1), (1, 3, 2))), True)
        self.assertIs(steps_hold(told, ((0, 2, 1), (1, 3, 2), (0, 2, 1), (1, 2, 2))), True)
        self.assertIs(steps_hold(told, ((1, 2, 2), (0, 3, 1))), True)
        self.assertIs(steps_hold(told, ((0, 2, 1),)), False)
        self.assertIs(steps_hold(told, ()), False)
        self.assertIs(steps_hold(told, ((0, 2, 1), (1, 4, 2))), False)
        self.assertIs(steps_hold(told, ((2, 0, 1), (1, 3, 2))), False)
        self.assertIs(steps_hold(told, ((0, 2, 1), (1, 3, 2), (9, 9, 9))), False)
        self.assertIs(steps_hold(told, [(0, 2, 1), (1, 3, 2)]), False)
        self.assertIs(steps_hold(told, ([0, 2, 1], (1, 3, 2))), False)
        self.assertIs(steps_hold(told, ((False, 2, 1), (1, 3, 2))), False)
        self.assertIs(steps_hold(told, ((0, 2, True), (1, 3, 2))), False)
        self.assertIs(steps_hold(listed(told), ((-4, 2, 1), (1, 3, 2))), False)
        self.assertIs(steps_hold([((), ())], ()), True)
        self.assertIs(steps_hold([((1,), (1,)), ((), ())], ((0, 0, 1),)), True)
        self.assertIs(steps_hold([((1,), (1,)), ((), (1,))], ((0, 0, 1),)), False)

    def test_a_step_takes_the_place_from_one_side_of_each(self):
        both = [((1,), (1,)), ((), (1,)), ((1,), ())]
        self.assertIs(steps_hold(both, ((0, 0, 1), (1, 3, 1))), False)
        self.assertIs(steps_hold(both, ((0, 0, 1), (1, 3, 1), (4, 2, 1))), True)

    def test_values_changed_in_one_thing(self):
        for sheets in self.some_sheets(25, 60):
            steps = clash_steps(sheets)
            for value in list(changed(steps)) + list(JUNK):
                try:
                    right = is_all_tuples(value) and all(
                        type(number) is int and number >= 0 for step in value for number in step)
                    right = right and isinstance(value, tuple) and (set(), set()) in follow(sheets, value)
                except (AssertionError, IndexError, TypeError, ValueError):
                    right = False
                self.assertIs(steps_hold(sheets, value), right, (sheets, value))

    def test_two_hundred_steps_and_many_sheets(self):
        told = premises_of(3)[1:] * 2
        row = ((told.index(((), (1,))), told.index(((1,), ())), 1),) * 200
        self.assertIs(steps_hold(told[:120], row), True)

    def test_wrong_sheets(self):
        for sheets, at in ((None, -1), (5, -1), ("12", -1), (EMPTY, -1), ([5], 0), ([((), ()), ((), (4,))], 1),
                           ([((0,), ())], 0), ([((), (True,))], 0), ([((), ()), ((),), 5], 1), ([("1", ())], 0),
                           ([((), (), ())], 0), ([((), ()), ((), ()), EMPTY], 2)):
            self.wrong(InvalidPremises, {"at": at}, clash_steps, sheets)
            self.wrong(InvalidPremises, {"at": at}, steps_hold, sheets, ())


class NonsenseTest(Wrong, unittest.TestCase):
    def check(self, book, one, other):
        proof = nonsense_proof(book, one, other)
        self.assertEqual(end_sheet(book, proof), sheet_of([one], [other]))
        self.assertTrue(is_all_tuples(proof))
        right, left, woken = bad_pairs(book)[0]
        word, sheet, (join, saying, first, second) = proof
        self.assertEqual((word, join, sheet), ("thin", "join", ((one,), (other,))))
        self.assertEqual(saying[1:], tuple(one if truth else other for truth in woken[0]))
        self.assertEqual([rule[:3] for rule in (first, second)],
                         [("rule", right, saying[1:]), ("rule", left, saying[1:])])
        self.assertEqual(sorted(set(words_of(proof)) - {"start"}), ["join", "rule", "thin"])
        self.assertEqual((words_of(proof).count("rule"), words_of(proof).count("join")), (2, 1))

    def test_nonsense(self):
        for book in random_books(150, 26, calm=False):
            self.check(book, "q", "r")
            self.check(book, "q", "q")
            name, places = book.makers[0]
            self.check(book, (name,) + ("p",) * places, "q")
        self.check(BOTH, "q", "r")

    def test_wrong(self):
        for value in NO_SAYINGS + (("and", "p", "q"), ("tonk", "p")):
            self.wrong(InvalidSaying, {"at": 0}, nonsense_proof, TONK, value, value)
            self.wrong(InvalidSaying, {"at": 1}, nonsense_proof, TONK, "p", value)
            self.wrong(InvalidSaying, {"at": 1}, nonsense_proof, EMPTY, "p", value)
        self.wrong(Refused, {"at": -1}, nonsense_proof, NO, DEEP, "p")
        both = read_book("maker no 1\nright no:\nleft no:\nmaker w 3\nmaker m 2\nmaker n 1")
        self.assertEqual(end_sheet(both, nonsense_proof(both, "p", DEEP[1])), (("p",), (DEEP[1],)))
        # The first bad row is (0,): the second saying stands in the place.
        self.wrong(InvalidSaying, {"at": -1}, nonsense_proof, both, "p", DEEP)
        self.assertEqual(end_sheet(both, nonsense_proof(both, DEEP, "p")), ((DEEP,), ("p",)))
        wider = read_book("maker tonk 2\nright tonk: | 1\nleft tonk: 2 |\nmaker w 3\nmaker m 2\nmaker n 1")
        self.wrong(InvalidSaying, {"at": -1}, nonsense_proof, wider, wide(200), wide(200))
        self.assertEqual(nonsense_proof(wider, wide(200), wide(199))[0], "thin")

    def test_even_truths(self):
        self.assertEqual(even_truths(TONK), (0, 1))
        self.assertEqual(even_truths(EMPTY), (0, 1))
        self.assertEqual(even_truths(BOTH), ())
        self.assertEqual(even_truths(NO), ())
        self.assertEqual(even_truths(read_book("maker top 0\nright top:")), (1,))
        for book in random_books(200, 27):
            right = tuple(truth for truth in (0, 1) if not any(
                1 - truth in tells(book, name, (truth,) * places) for name, places in book.makers))
            self.assertEqual(even_truths(book), right)

    def test_nonsense_has_a_proof_exactly_if_the_book_is_not_calm(self):
        """All proofs within a small lot, found by going round."""
        for book in random_books(120, 28, makers=[("m", 2)], rules=4, premises=2) + random_books(
                60, 33, makers=[("m", 1)], rules=4, premises=2) + random_books(20, 34, makers=[("m", 0)], rules=2):
            name, places = book.makers[0]
            bad = pairs_by_rows(book)
            row = bad[0][2][0] if bad else (1, 0)[:places]
            lot = in_order(["q", "r", (name,) + tuple("q" if truth else "r" for truth in row)])
            done = provable(book, lot, True)
            self.assertEqual((frozenset("q"), frozenset("r")) in done, not is_calm(book))
            if is_calm(book):
                self.assertEqual(done, provable(book, lot, False))

    def test_a_calm_book_proves_just_what_its_worlds_keep(self):
        rng = random.Random(29)
        for _ in range(60):
            book = random_book(rng, makers=[("m", rng.choice((0, 1, 2)))], rules=4, premises=2, calm=True)
            name, places = book.makers[0]
            lot = in_order(["q", "r"] + [(name,) + tuple(rng.choice("qr") for _ in range(places)) for _ in range(2)])
            done = provable(book, lot, False)
            worlds = all_worlds(book, lot)
            sides = list(map(frozenset, subsets(lot)))
            for left in sides:
                for right in sides:
                    self.assertEqual((left, right) in done, all(is_kept(world, left, right) for world in worlds))

    def test_even_truths_bar_just_what_has_no_proof(self):
        """Sheets with an empty side: a lot with the sayings that [12] names is enough to prove them."""
        rng = random.Random(30)
        for _ in range(60):
            book = random_book(rng, makers=[("m", rng.choice((0, 1, 2)))], rules=4, premises=2, calm=False)
            name, places = book.makers[0]
            woken = pairs_by_rows(book)[0][2][0]
            whole = (name,) + ("d",) * places
            filled = [(name,) + tuple(one if truth else other for truth in woken)
                      for one, other in ((whole, "d"), ("d", whole))]
            lot = in_order(["d", whole] + filled)
            done = provable(book, lot, True)
            even = even_truths(book)
            self.assertEqual((frozenset(), frozenset("d")) in done, 0 not in even)
            self.assertEqual((frozenset("d"), frozenset()) in done, 1 not in even)
            self.assertEqual((frozenset(), frozenset()) in done, not even)


def subsets(things):
    """All lots of the things, as lists."""
    return [[thing for at, thing in enumerate(things) if bits >> at & 1] for bits in range(1 << len(things))]


class PapersTest(Wrong, unittest.TestCase):
    def right_paper(self, book, value):
        """Whether the value is a paper, reckoned here."""
        if not isinstance(value, tuple) or not is_all_tuples(value) or not value:
            return False
        if value[0] == "calm" and len(value) == 2 and isinstance(value[1], tuple):
            pairs = [(right, left) for right, (name, side, _) in enumerate(book.rules)
                     for left, (other, other_side, _) in enumerate(book.rules)
                     if name == other and (side, other_side) == ("right", "left")]
            if not all(isinstance(each, tuple) and len(each) == 3 for each in value[1]):
                return False
            if [repr(each[:2]) for each in value[1]] != [repr(pair) for pair in pairs]:
                return False
            return all(steps_hold(book.rules[right][2] + book.rules[left][2], steps) for right, left, steps in value[1])
        if value[0] == "nonsense" and len(value) == 4:
            return any(repr(value[1:]) == repr((right, left, row))
                       for right, left, woken in pairs_by_rows(book) for row in woken)
        return False

    def test_papers(self):
        for book in random_books(150, 31, rules=6) + [AND, LOGIC, XOR, MAY, EMPTY, TONK, BOTH]:
            paper = court_paper(book)
            self.assertEqual(paper[0] == "calm", calm_by_tables(book))
            self.assertTrue(is_all_tuples(paper))
            self.assertTrue(self.right_paper(book, paper))
            self.assertIs(court_holds(book, paper), True)
            self.assertIs(court_holds(book, listed(paper)), False)
            if paper[0] == "nonsense":
                self.assertEqual(paper[1:], bad_pairs(book)[0][:2] + (bad_pairs(book)[0][2][0],))
            for right, left, woken in bad_pairs(book):
                for row in rows(len(woken[0])):
                    self.assertIs(court_holds(book, ("nonsense", right, left, row)), row in woken)

    def test_other_values(self):
        for book in random_books(40, 32, rules=4) + [AND, XOR, EMPTY, TONK, BOTH]:
            paper = court_paper(book)
            for value in list(changed(paper)) + list(JUNK) + [court_paper(TONK), court_paper(AND), ("calm", ())]:
                self.assertIs(court_holds(book, value), self.right_paper(book, value), (book.rules, value))

    def test_examples(self):
        self.assertEqual(court_paper(TONK), ("nonsense", 1, 0, (1, 0)))
        self.assertEqual(court_paper(EMPTY), ("calm", ()))
        self.assertEqual(court_paper(BOTH), ("nonsense", 1, 0, ()))
        self.assertIs(court_holds(AND, ("calm", ((1, 0, ((0, 2, 1), (1, 3, 2))),))), True)
        self.assertIs(court_holds(AND, ("calm", ((True, False, ((0, 2, 1), (1, 3, 2))),))), False)
        self.assertIs(court_holds(TONK, ("nonsense", True, 0, (1, 0))), False)
        self.assertIs(court_holds(TONK, ("nonsense", 1, 0, (True, 0))), False)
        self.assertEqual(court_paper(put_rules(AND, [("and", "left", [])]))[0], "nonsense")
        self.assertEqual(height_of(nonsense_proof(TONK, "q", "r")), 2)


if __name__ == "__main__":
    unittest.main()
