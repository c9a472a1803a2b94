"""[19] and [20]: worlds, their counts, what they keep."""

import itertools
import random
import unittest

from saymakers.books import Book, read_book
from saymakers.court import is_calm
from saymakers.errors import (
    InvalidBook, InvalidIndex, InvalidSaying, InvalidSheet, InvalidSize, InvalidWorld, Refused)
from saymakers.worlds import is_world, keeps_sheet, kept_count, next_truths, nth_world, world_count
from tests.some_proofs import random_saying
from tests.test_sayings import NO_SAYINGS
from tests.tools import (
    AND, EMPTY, JUNK, LOGIC, MAY, TONK, Wrong, all_worlds, calm_by_tables, changed, in_order, is_all_tuples, is_kept,
    listed, lots, parts, provable, random_book, random_books, rows, sheet_of, tells)


def closed(sayings):
    """The sayings and all their parts, ascending."""
    return in_order(set().union(*map(parts, sayings)) if sayings else ())


def some_lots(seed, many, most, **more):
    """(book, sayings) with at most so many sayings and parts, at random."""
    rng = random.Random(seed)
    for _ in range(many):
        book = random_book(rng, **more)
        sayings = [random_saying(rng, book, 2) for _ in range(rng.randint(0, 3))]
        if len(closed(sayings)) <= most:
            yield book, sayings


def fits(book, saying):
    """Whether the value is a saying of the book, in tuples."""
    if isinstance(saying, str):
        return 1 <= len(saying) <= 8 and all("a" <= sign <= "z" for sign in saying)
    return (type(saying) is tuple and len(saying) > 0 and (saying[0], len(saying) - 1) in list(book.makers)
            and all(fits(book, part) for part in saying[1:]))


def right_world(book, value):
    """Whether the value is a world of the book, reckoned here."""
    if type(value) is not tuple or not all(
            type(pair) is tuple and len(pair) == 2 and type(pair[1]) is int and pair[1] in (0, 1) and fits(book, pair[0])
            for pair in value):
        return False
    world = dict(value)
    if tuple(world) != in_order(world) or len(world) != len(value) or tuple(world) != closed(list(world)):
        return False
    return world in all_worlds(book, tuple(world))


class WorldsTest(Wrong, unittest.TestCase):
    def test_is_world(self):
        for book in (EMPTY, AND, TONK, MAY):
            self.assertIs(is_world(book, ()), True)
        self.assertIs(is_world(MAY, (("p", 0), (("may", "p"), 1))), True)
        self.assertIs(is_world(MAY, (("p", 1), (("may", "p"), 0))), False)
        self.assertIs(is_world(MAY, ((("may", "p"), 1),)), False)
        self.assertIs(is_world(MAY, (("q", 0), ("p", 0))), False)
        self.assertIs(is_world(MAY, (("p", 0), ("p", 0))), False)
        self.assertIs(is_world(MAY, (("p", False),)), False)
        self.assertIs(is_world(MAY, [("p", 0)]), False)
        self.assertIs(is_world(MAY, (["p", 0],)), False)
        self.assertIs(is_world(MAY, (("p", 0), (["may", "p"], 1))), False)
        self.assertIs(is_world(AND, (("p", 0), (("may", "p"), 1))), False)
        self.assertIs(is_world(TONK, (("p", 0), ("q", 1), (("tonk", "q", "p"), 1))), False)

    def test_any_values(self):
        for book, sayings in some_lots(71, 40, 4):
            lot = closed(sayings)
            worlds = [tuple(zip(lot, truths)) for truths in itertools.product((0, 1), repeat=len(lot))]
            for value in worlds + list(changed(worlds[0])) + list(JUNK) + listed(worlds):
                self.assertIs(is_world(book, value), right_world(book, value), (book.rules, value))

    def test_next_truths(self):
        self.assertEqual(next_truths(MAY, (), "p"), (0, 1))
        self.assertEqual(next_truths(MAY, (("p", 1),), ("may", "p")), (1,))
        self.assertEqual(next_truths(MAY, [["p", 0]], ["may", "p"]), (0, 1))
        self.assertEqual(next_truths(AND, (("p", 0),), ("and", "p", "p")), (0,))
        self.assertEqual(next_truths(TONK, (("p", 0), ("q", 1)), ("tonk", "q", "p")), ())
        self.assertEqual(next_truths(LOGIC, (), ("top",)), (1,))
        for book, sayings in some_lots(72, 60, 6):
            lot = closed(sayings)
            for world in all_worlds(book, lot)[:12]:
                value = tuple(world.items())
                for name, places in book.makers:
                    for filling in itertools.product(lot, repeat=places):
                        if (name,) + filling in world:
                            continue
                        told = tells(book, name, [world[part] for part in filling])
                        right = () if len(told) == 2 else tuple(told) or (0, 1)
                        self.assertEqual(next_truths(book, value, (name,) + filling), right)
                        self.assertEqual(next_truths(book, listed(value), listed((name,) + filling)), right)

    def test_never_empty_exactly_if_calm(self):
        for book in random_books(150, 73):
            letters = ("p", "q", "r")
            empty = any(next_truths(book, tuple(zip(letters, row)), (name,) + letters[:places]) == ()
                        for name, places in book.makers for row in rows(3))
            self.assertIs(is_calm(book), not empty)

    def test_wrong_next(self):
        for value in JUNK + ((("p", 2),), (("q", 0), ("p", 0)), ((("may", "p"), 1),), (("p", 1), (("may", "p"), 0)),
                             (("p", True),), ((("and", "p", "p"), 0), ("p", 0)), (("p", 0), (("or", "p", "p"), 0))):
            if value not in ((), [], (("p", 1),)):
                self.wrong(InvalidWorld, {"at": -1}, next_truths, MAY, value, None)
        for value in NO_SAYINGS + (("and", "p", "p"), ("may", "p", "p"), ("may",)):
            self.wrong(InvalidSaying, {"at": -1}, next_truths, MAY, (("p", 0),), value)
        for saying in ("p", ("may", "q"), ("may", ("may", "p"))):
            self.wrong(Refused, {"at": -1}, next_truths, MAY, (("p", 0),), saying)
        for value in JUNK:
            if not isinstance(value, Book):
                for call, args in ((is_world, (None,)), (next_truths, (None, None)), (world_count, (None,)),
                                   (nth_world, (None, None)), (kept_count, (None,))):
                    self.wrong(InvalidBook, {"at": -1}, call, value, *args)

    def test_keeps_sheet(self):
        world = (("p", 0), ("q", 1), (("may", "p"), 1))
        for sheet, kept in ((((), ()), False), ((("p",), ()), True), ((("q",), ()), False), (((), ("q",)), True),
                            (((), ("p",)), False), ((("q",), ("p", ("may", "p"))), True), ((("q",), ("q",)), True),
                            ((("q", ("may", "p")), ("p",)), False)):
            self.assertIs(keeps_sheet(world, sheet), kept)
            self.assertIs(keeps_sheet(listed(world), listed(sheet)), kept)
        # Neither closed under parts nor right by any rules: still told as worlds are.
        self.assertIs(keeps_sheet(((("may", "z"), 0),), ([["may", "z"]], [])), True)
        self.assertIs(keeps_sheet((), ((), ())), False)
        for value in (None, 5, "p", (1,), (("p",),), (("p", 2),), (("p", True),), (("q", 0), ("p", 0)), (("P", 0),),
                      (("p", 0), ("p", 1)), EMPTY, ((("may", "p"), 0), ("p", 0)), ("p", 0), (("p", 0, 0),), (EMPTY,)):
            self.wrong(InvalidWorld, {"at": -1}, keeps_sheet, value, None)
        for sheet in (None, 5, "|", (), ("p",), ((), (), ()), ((), ("P",)), (("p",), 5), EMPTY):
            self.wrong(InvalidSheet, {"at": -1}, keeps_sheet, world, sheet)
        for sheet in ((("r",), ()), ((), ("q", ("may", "q"))), (("p",), ("r",))):
            self.wrong(Refused, {"at": -1}, keeps_sheet, world, sheet)


class CountsTest(Wrong, unittest.TestCase):
    def test_counts_and_worlds(self):
        for book, sayings in some_lots(74, 150, 8):
            lot = closed(sayings)
            worlds = [tuple(world.items()) for world in all_worlds(book, lot)]
            self.assertEqual(world_count(book, sayings), len(worlds))
            self.assertEqual([nth_world(book, sayings, at) for at in range(len(worlds))], worlds)
            self.assertEqual(world_count(book, listed(sayings * 2)[::-1]), len(worlds))
            for at in (len(worlds), -1, None, True, "0", [0], EMPTY):
                self.wrong(InvalidIndex, {"at": -1}, nth_world, book, sayings, at)
            for world in worlds[:3]:
                self.assertTrue(is_all_tuples(world))
                self.assertIs(is_world(book, world), True)

    def test_kept_count(self):
        for book, sayings in some_lots(75, 80, 5):
            lot = closed(sayings)
            worlds = all_worlds(book, lot)
            kept = sum(all(is_kept(world, left, right) for world in worlds)
                       for left in lots(lot) for right in lots(lot) if not set(left) & set(right))
            self.assertEqual(kept_count(book, sayings), kept)
        self.assertEqual(kept_count(EMPTY, ()), 0)
        self.assertEqual(world_count(EMPTY, ()), 1)
        self.assertEqual(nth_world(EMPTY, [], 0), ())
        both = read_book("maker top 0\nright top:\nleft top:")
        self.assertEqual((world_count(both, [("top",)]), kept_count(both, [("top",)])), (0, 3))
        self.wrong(InvalidIndex, {"at": -1}, nth_world, both, [("top",)], 0)

    def test_bounds(self):
        letters = list("abcdefghijklm")
        self.assertEqual(world_count(EMPTY, letters[:12]), 4096)
        self.assertEqual(nth_world(EMPTY, letters[11::-1], 1)[-2:], (("k", 0), ("l", 1)))
        self.assertEqual(kept_count(EMPTY, letters[:7]), 0)
        whole = ("and", ("and", "p", "q"), ("and", "q", "p"))
        self.assertEqual(kept_count(AND, [whole, "p"]), 3 ** 5 - len({
            (left, right) for world in all_worlds(AND, closed([whole])) for left in lots(closed([whole]))
            for right in lots(closed([whole])) if not set(left) & set(right) and not is_kept(world, left, right)}))
        for call, args in ((world_count, ()), (nth_world, (None,))):
            self.wrong(InvalidSize, {"word": "sayings"}, call, EMPTY, letters, *args)
            self.wrong(InvalidSaying, {"at": 13}, call, EMPTY, letters + [5], *args)
        self.wrong(InvalidSize, {"word": "sayings"}, kept_count, EMPTY, letters[:8])
        deep = "p"
        for _ in range(7):
            deep = ("may", deep)
        self.wrong(InvalidSize, {"word": "sayings"}, kept_count, MAY, [deep])
        self.assertEqual(kept_count(MAY, [deep[1]]), 3 ** 7 - len({
            (left, right) for world in all_worlds(MAY, closed([deep[1]]))
            for left in lots([saying for saying in world if world[saying]])
            for right in lots([saying for saying in world if not world[saying]])}))

    def test_wrong(self):
        for sayings, at in ((None, -1), (5, -1), ("pq", -1), (EMPTY, -1), (["p", "Q"], 1), (["p", ("and", "p", "p"), 5], 1),
                            ([("may",)], 0), ([None], 0)):
            for call, args in ((world_count, ()), (nth_world, (None,)), (kept_count, ())):
                self.wrong(InvalidSaying, {"at": at}, call, MAY, sayings, *args)

    def test_what_holds_of_worlds(self):
        for book in random_books(120, 76):
            letters = ("p", "q", "r")
            whole = [(name,) + letters[:places] for name, places in book.makers]
            lot = closed(list(letters) + whole)
            told = {tuple(world[letter] for letter in letters) for world in all_worlds(book, lot)}
            if is_calm(book):
                self.assertEqual(told, set(rows(3)))
            unopen = is_calm(book) and all(tells(book, name, row) for name, places in book.makers for row in rows(places))
            self.assertIs(is_calm(book) and world_count(book, lot) == 2 ** 3, unopen)

    def test_partings(self):
        """In any book the partings without a proof without joins are just the worlds."""
        rng = random.Random(77)
        for _ in range(60):
            book = random_book(rng, makers=[("m", rng.choice((0, 1, 2)))], rules=4, premises=2)
            lot = closed(["q", random_saying(rng, book, 1), random_saying(rng, book, 1)])
            if len(lot) > 5:
                continue
            done = provable(book, lot, False)
            worlds = [nth_world(book, lot, at) for at in range(world_count(book, lot))]
            broken = [(frozenset(saying for saying, truth in world if truth),
                       frozenset(saying for saying, truth in world if not truth)) for world in worlds]
            apart = [(frozenset(side), frozenset(lot) - frozenset(side)) for side in lots(lot)]
            self.assertEqual({parting for parting in apart if parting not in done}, set(broken))
            for left, right in broken:
                world = worlds[broken.index((left, right))]
                self.assertIs(keeps_sheet(world, sheet_of(left, right)), False)
            if calm_by_tables(book):
                for left in map(frozenset, lots(lot)):
                    for right in map(frozenset, lots(lot)):
                        within = any(left <= most and right <= more for most, more in broken)
                        self.assertIs((left, right) not in done, within)

    def test_a_calm_book_exactly_if_each_unproved_sheet_lies_within_a_parting(self):
        for book in random_books(60, 78, makers=[("m", 1)], rules=3, premises=2):
            calm = True
            for lot in (["q", ("m", "q")], ["q", "r", ("m", "q"), ("m", "r")]):
                done = provable(book, closed(lot), False)
                sides = list(map(frozenset, lots(closed(lot))))
                partings = [(side, frozenset(lot) - side) for side in sides]
                for left in sides:
                    for right in sides:
                        if (left, right) not in done:
                            calm = calm and any(left <= most and right <= more and (most, more) not in done
                                                for most, more in partings)
            self.assertIs(is_calm(book), calm)


if __name__ == "__main__":
    unittest.main()
