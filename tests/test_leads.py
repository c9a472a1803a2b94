"""[9]: prime premises and steps that lead to a premise."""

import itertools
import random
import unittest

from saymakers.books import Book, maker_table
from saymakers.errors import InvalidBook, InvalidPremises, InvalidRow, InvalidSize, Refused
from saymakers.leads import lead_steps, leads_hold, prime_book, prime_premises, rows_premises
from tests.test_court import follow
from tests.tools import (
    AND, EMPTY, JUNK, LOGIC, Wrong, changed, is_all_tuples, listed, premises_of, random_books, rows, tells, wakes)


def inside(one, other):
    """Whether the one premise lies within the other."""
    return set(one[0]) <= set(other[0]) and set(one[1]) <= set(other[1])


def both_sided(premise):
    """Whether a place is on both sides."""
    return bool(set(premise[0]) & set(premise[1]))


def primes(places, woken):
    """The prime premises of these rows, found among all premises."""
    holding = [each for each in premises_of(places) if not both_sided(each) and all(wakes([each], row) for row in woken)]
    return tuple(sorted(each for each in holding if not any(inside(other, each) and other != each for other in holding)))


def some_lots(seed, many):
    """(places, premises), at random."""
    rng = random.Random(seed)
    for _ in range(many):
        places = rng.choice((0, 1, 2, 2, 3, 3, 3))
        yield places, [rng.choice(premises_of(places)) for _ in range(rng.randint(0, 6))]


class PrimeTest(Wrong, unittest.TestCase):
    def test_prime_premises(self):
        for places, premises in some_lots(41, 400):
            woken = [row for row in rows(places) if wakes(premises, row)]
            prime = prime_premises(places, premises)
            self.assertEqual(prime, primes(places, woken))
            self.assertEqual([row for row in rows(places) if wakes(prime, row)], woken)
            self.assertEqual(prime_premises(places, listed(premises + premises)), prime)
            self.assertEqual(rows_premises(places, woken), prime)

    def test_awake_in_the_same_rows_exactly_if_prime_ones_are_the_same(self):
        told = list(some_lots(42, 60))
        for (places, one), (others, other) in itertools.combinations(told, 2):
            if places == others:
                alike = all(wakes(one, row) == wakes(other, row) for row in rows(places))
                self.assertIs(prime_premises(places, one) == prime_premises(places, other), alike)

    def test_rows_premises(self):
        for places in range(3):
            for bits in range(1 << 2 ** places):
                woken = [row for at, row in enumerate(rows(places)) if bits >> at & 1]
                prime = rows_premises(places, woken[::-1] + woken)
                self.assertEqual(prime, primes(places, woken))
                self.assertEqual([row for row in rows(places) if wakes(prime, row)], woken)
                self.assertEqual(rows_premises(places, listed(woken)), prime)
        self.assertEqual(rows_premises(3, []), (((), ()),))
        self.assertEqual(rows_premises(0, [()]), ())
        self.assertEqual(rows_premises(0, []), (((), ()),))
        self.assertEqual(rows_premises(2, [(1, 1)]), (((), (1,)), ((), (2,))))
        self.assertEqual(len(rows_premises(3, [row for row in rows(3) if sum(row) % 2])), 4)

    def test_edges(self):
        self.assertEqual(prime_premises(2, ()), ())
        self.assertEqual(prime_premises(2, [((1,), (1, 2))]), ())
        self.assertEqual(prime_premises(2, [((), ()), ((1,), ())]), (((), ()),))
        self.assertEqual(prime_premises(0, [((), ())]), (((), ()),))
        self.assertEqual(prime_premises(2, [((1,), (2,)), ((), (1,))]), (((), (1,)), ((), (2,))))

    def test_prime_book(self):
        for book in random_books(150, 43) + [LOGIC, EMPTY, AND]:
            prime = prime_book(book)
            self.assertEqual(prime.makers, book.makers)
            self.assertEqual(prime, Book(book.makers, [
                (name, side, primes(book.maker_places(name),
                                    [row for row in rows(book.maker_places(name)) if wakes(premises, row)]))
                for name, side, premises in book.rules]))
            for name, places in book.makers:
                self.assertEqual([tells(prime, name, row) for row in rows(places)],
                                 [tells(book, name, row) for row in rows(places)])
                try:
                    self.assertEqual(maker_table(prime, name), maker_table(book, name))
                except Refused as refused:
                    self.wrong(Refused, {"at": refused.at}, maker_table, prime, name)

    def test_wrong(self):
        for places in (-1, 4, True, None, "2", [], EMPTY):
            self.wrong(InvalidSize, {"word": "places"}, prime_premises, places, None)
            self.wrong(InvalidSize, {"word": "places"}, rows_premises, places, None)
            self.wrong(InvalidSize, {"word": "places"}, lead_steps, places, None, None)
            self.wrong(InvalidSize, {"word": "places"}, leads_hold, places, None, None, None)
        for premises, at in ((None, -1), (5, -1), ("1", -1), (EMPTY, -1), ([((), ()), ((), (3,))], 1), ([5], 0),
                             ([((0,), ())], 0), ([((True,), ())], 0), ([((), ()), ((), ()), ((),)], 2)):
            self.wrong(InvalidPremises, {"at": at}, prime_premises, 2, premises)
            self.wrong(InvalidPremises, {"at": at}, lead_steps, 2, premises, None)
            self.wrong(InvalidPremises, {"at": at}, leads_hold, 2, premises, None, None)
        for goal in (None, 5, (), ((),), ((), (3,)), ((0,), ()), ((), (True,)), "||", EMPTY):
            self.wrong(InvalidPremises, {"at": -1}, lead_steps, 2, [((), (1,))], goal)
            self.wrong(InvalidPremises, {"at": -1}, leads_hold, 2, [((), (1,))], goal, ())
        for told, at in ((None, -1), ("01", -1), (5, -1), ([(0, 1), (0,)], 1), ([(0, 2)], 0), ([(0, True)], 0),
                         ([(0, 1), (1, 1), None], 2), ([(0, 1, 1)], 0), ([EMPTY], 0)):
            self.wrong(InvalidRow, {"at": at}, rows_premises, 2, told)
        for value in JUNK:
            if not isinstance(value, Book):
                self.wrong(InvalidBook, {"at": -1}, prime_book, value)


class LeadsTest(Wrong, unittest.TestCase):
    def right(self, premises, goal, value):
        """Whether the value is such a row of steps, reckoned here."""
        told = sorted(set(premises))
        if not isinstance(value, tuple) or not is_all_tuples(value):
            return False
        try:
            if not all(type(number) is int and number >= 0 for step in value for number in step):
                return False
            made = follow(told, value)
        except (AssertionError, IndexError, TypeError, ValueError):
            return False
        if both_sided(goal):
            return True
        ends = made[len(told):] or made
        return inside(ends[-1], goal) if value else any(inside(each, goal) for each in made)

    def test_steps_or_a_row(self):
        for places, premises in some_lots(44, 60):
            for goal in premises_of(places):
                steps = lead_steps(places, premises, goal)
                barred = any(wakes(premises, row) and not wakes([goal], row) for row in rows(places))
                self.assertIs(steps is None, barred)
                if barred:
                    continue
                self.assertTrue(self.right(premises, goal, steps))
                self.assertIs(leads_hold(places, premises, goal, steps), True)
                if both_sided(goal) or any(inside(premise, goal) for premise in premises):
                    self.assertEqual(steps, ())
                self.assertLessEqual(len(steps), 3 ** places)
                made = follow(sorted(set(premises)), steps)[len(set(premises)):]
                self.assertFalse(any(both_sided(each) for each in made))
                self.assertEqual(lead_steps(places, listed(premises[::-1] + premises), listed(goal)), steps)

    def test_leads_hold(self):
        for places, premises in some_lots(45, 25):
            for goal in premises_of(places)[::5]:
                steps = lead_steps(places, premises, goal)
                for value in list(changed(steps)) + list(JUNK) + [(), ((0, 0, 1),), ((1, 0, 1),)]:
                    self.assertIs(leads_hold(places, premises, goal, value), self.right(premises, goal, value),
                                  (premises, goal, value))

    def test_edges(self):
        told = [((), (1,)), ((1,), (2,)), ((1,), (1,))]
        # Ascending: | 1, then 1 | 1, then 1 | 2.
        self.assertEqual(lead_steps(2, told, ((), (2,))), ((0, 2, 1),))
        self.assertIs(leads_hold(2, told, ((), (2,)), ((0, 2, 1),)), True)
        self.assertIs(leads_hold(2, told, ((), (2,)), ((0, 1, 1), (3, 2, 1))), True)
        self.assertIs(leads_hold(2, told, ((), (2,)), ((0, 2, 1), (0, 1, 1))), False)
        self.assertIs(leads_hold(2, told, ((), (1, 2)), ((0, 1, 1),)), True)
        self.assertIs(leads_hold(2, told, ((), (1,)), ((0, 2, 1),)), False)
        self.assertIs(leads_hold(2, told, ((), (1, 2)), ()), True)
        self.assertIs(leads_hold(2, told, ((), (2,)), ()), False)
        self.assertIs(leads_hold(2, told, ((2,), (2,)), ()), True)
        self.assertIs(leads_hold(2, told, ((2,), (2,)), ((0, 2, 1),)), True)
        self.assertIs(leads_hold(2, told, ((2,), (2,)), ((2, 0, 1),)), False)
        self.assertIs(leads_hold(2, told, ((), (2,)), [(0, 2, 1)]), False)
        self.assertIs(leads_hold(2, told, ((), (2,)), ((0, 2, True),)), False)
        self.assertEqual(lead_steps(0, [((), ())], ((), ())), ())
        self.assertIsNone(lead_steps(0, (), ((), ())))
        self.assertEqual(lead_steps(1, (), ((1,), (1,))), ())
        self.assertIs(leads_hold(0, (), ((), ()), ()), False)
        self.assertIs(leads_hold(1, (), ((1,), (1,)), ()), True)


if __name__ == "__main__":
    unittest.main()
