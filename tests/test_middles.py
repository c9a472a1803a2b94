"""[41] to [43]: rows of atoms, middles, chains."""

import random
import unittest

from saymakers.books import Book, put_rules, read_book
from saymakers.errors import InvalidBook, InvalidSaying, InvalidSheet, InvalidSize, NotCalm, Refused
from saymakers.judge import sheet_holds, sheet_paper
from saymakers.middles import (
    chain_holds, common_atoms, fewest_atoms, first_middle, last_middle, middle_chain, middle_count, middle_holds,
    possible_rows, some_middle, taken_rows)
from saymakers.sayings import put_beside, read_sheet
from tests.some_proofs import random_saying
from tests.test_judge import NO_SHEETS
from tests.test_sayings import NO_SAYINGS
from tests.test_worlds import closed
from tests.tools import (
    AND, EMPTY, JUNK, LOGIC, MAY, Wrong, all_worlds, changed, in_order, is_all_tuples, is_kept, listed, lots,
    parts, random_book, rows, sheet_of, tells)

SO = read_book("maker and 2\nmaker so 1\nright and: | 1; | 2\nleft and: 1 2 |")
HARD = put_rules(SO, [("so", "right", [((), (1,))]), ("so", "left", [((), (1,))])])


def has_open_row(book, saying):
    """Whether the saying is a letter or its maker has an open row."""
    return isinstance(saying, str) or not all(tells(book, saying[0], row) for row in rows(len(saying) - 1))


def atoms_of(book, first, second):
    """The atoms of two sides, reckoned here."""
    common = set(closed(first[0] + first[1])) & set(closed(second[0] + second[1]))
    return in_order([part for part in common if has_open_row(book, part)])


def rows_by_worlds(book, atoms, sheet=((), ())):
    """The rows of the atoms in worlds that break the sheet (any worlds for no sheet), reckoned here."""
    lot = closed(tuple(atoms) + sheet[0] + sheet[1])
    return sorted({tuple(world[atom] for atom in atoms) for world in all_worlds(book, lot)
                   if sheet == ((), ()) or not is_kept(world, *sheet)})


def keeps(atoms, row, sheet):
    """Whether the row of the atoms keeps the sheet."""
    return is_kept(dict(zip(atoms, row)), *sheet)


def sheet_key(sheet):
    """What sheets are ordered by, reckoned here by places among all sayings of their own."""
    def text(saying):
        return saying if isinstance(saying, str) else f"{saying[0]}({', '.join(map(text, saying[1:]))})"

    def names(saying):
        return 1 if isinstance(saying, str) else 1 + sum(map(names, saying[1:]))
    return tuple(tuple((names(saying), text(saying)) for saying in side) for side in sheet)


def all_sheets(atoms, both=False):
    """All sheets of the atoms, in order."""
    found = [(left, right) for left in lots(atoms) for right in lots(atoms) if both or not set(left) & set(right)]
    return sorted(found, key=sheet_key)


def is_lot(atoms, value):
    """Whether the value is a tuple of unlike sheets of atoms in order, reckoned here."""
    if type(value) is not tuple or not is_all_tuples(value):
        return False
    every = all_sheets(atoms, True)
    return all(sheet in every for sheet in value) and [every.index(sheet) for sheet in value] == sorted(
        {every.index(sheet) for sheet in value})


def right_middle(book, first, second, value):
    """Whether the value is a middle, reckoned here by rows."""
    atoms = atoms_of(book, first, second)
    return (is_lot(atoms, value)
            and all(keeps(atoms, row, sheet) for row in rows_by_worlds(book, atoms, first) for sheet in value)
            and not any(all(keeps(atoms, row, sheet) for sheet in value)
                        for row in rows_by_worlds(book, atoms, second)))


def follows(book, facts, sheet):
    """Whether all worlds that keep the facts keep the sheet."""
    lot = closed([saying for each in list(facts) + [sheet] for side in each for saying in side])
    return all(is_kept(world, *sheet) for world in all_worlds(book, lot)
               if all(is_kept(world, *fact) for fact in facts))


def right_chain(book, sides, value):
    """Whether the value is a chain, reckoned here by what follows."""
    if type(value) is not tuple or len(value) != len(sides) - 1:
        return False
    cuts = [(joined(sides[:at]), joined(sides[at:])) for at in range(1, len(sides))]
    if not all(is_lot(atoms_of(book, *cut), lot) for cut, lot in zip(cuts, value)):
        return False
    lots_around = ((),) + value + ((((), ()),),)
    return all(follows(book, lots_around[at], put_beside(side, sheet))
               for at, side in enumerate(sides) for sheet in lots_around[at + 1])


def joined(sides):
    """All sayings of the sides."""
    return sheet_of([saying for left, right in sides for saying in left], [saying for left, right in sides for saying in right])


def some_sides(seed, many, sides=2, most=7):
    """(book, sides) of few parts together, at random; every other ones joined have a proof."""
    rng = random.Random(seed)
    provable = False
    while many:
        places = [(name, rng.choice((0, 1, 1, 2))) for name in ("m", "n")[:rng.randint(1, 2)]]
        book = random_book(rng, makers=places, rules=4, premises=2, calm=True)
        lot = closed([random_saying(rng, book, 2) for _ in range(3)])
        if len(lot) > most:
            continue
        told = [([], []) for _ in range(sides)]
        for _ in range(rng.randint(1, 6)):
            rng.choice(told)[rng.random() < 0.5].append(rng.choice(lot))
        told = [sheet_of(*side) for side in told]
        if follows(book, (), joined(told)) == provable or rng.random() < 0.02:
            many -= 1
            provable = not provable
            yield book, told


class RowsTest(Wrong, unittest.TestCase):
    def test_rows(self):
        rng = random.Random(241)
        for book, (first, second) in some_sides(242, 150):
            atoms = closed(first[0] + second[1])[:6]
            self.assertEqual(possible_rows(book, atoms), tuple(rows_by_worlds(book, atoms)))
            told = rows_by_worlds(book, atoms, second) if second != ((), ()) else rows_by_worlds(book, atoms)
            self.assertEqual(taken_rows(book, atoms, second), tuple(told))
            mixed = list(atoms) * 2
            rng.shuffle(mixed)
            self.assertEqual(possible_rows(book, listed(mixed)), possible_rows(book, atoms))
            self.assertEqual(taken_rows(book, listed(mixed), listed(second)), taken_rows(book, atoms, second))

    def test_edges(self):
        self.assertEqual(possible_rows(EMPTY, ()), ((),))
        self.assertEqual(taken_rows(EMPTY, (), ((), ())), ((),))
        self.assertEqual(taken_rows(EMPTY, (), (("p",), ("p",))), ())
        self.assertEqual(taken_rows(EMPTY, ("q", "p", "q"), (("p",), ())), ((1, 0), (1, 1)))
        self.assertEqual(possible_rows(MAY, [("may", "p"), "p"]), ((0, 0), (0, 1), (1, 1)))
        self.assertEqual(possible_rows(MAY, [("may", "p")]), ((0,), (1,)))
        self.assertEqual(possible_rows(LOGIC, [("top",)]), ((1,),))
        self.assertEqual(taken_rows(AND, ("p",), ((("and", "p", "q"),), ())), ((1,),))
        self.assertEqual(possible_rows(book=EMPTY, atoms=list("abcdef")), tuple(rows(6)))

    def test_joined_sides_have_a_proof_exactly_if_no_row_is_taken_by_both(self):
        found = {True: 0, False: 0}
        for book, (first, second) in some_sides(243, 300):
            atoms = common_atoms(book, first, second)
            self.assertEqual(atoms, atoms_of(book, first, second))
            both = set(taken_rows(book, atoms, first)) & set(taken_rows(book, atoms, second))
            proved = sheet_paper(book, put_beside(first, second))[0] == "proof"
            self.assertEqual(proved, not both)
            found[proved] += 1
        self.assertGreater(min(found.values()), 50)

    def test_atoms(self):
        sheet, other = read_sheet("and(p, and(q, so(q))) |"), read_sheet("and(so(q), r) | and(q, s)")
        self.assertEqual(common_atoms(SO, sheet, other), ("q", ("so", "q")))
        self.assertEqual(common_atoms(SO, sheet, sheet), ("p", "q", ("so", "q")))
        self.assertEqual(common_atoms(AND, (("p",), ()), ((), ("q",))), ())
        self.assertEqual(common_atoms(AND, ((), ()), ((), ())), ())

    def test_wrong(self):
        for value in JUNK:
            if not isinstance(value, Book):
                for call, args in ((possible_rows, (None,)), (taken_rows, (None, None)), (common_atoms, (None, None))):
                    self.wrong(InvalidBook, {"at": -1}, call, value, *args)
        for value in (None, 5, "pq", EMPTY, True):
            self.wrong(InvalidSaying, {"at": -1}, possible_rows, AND, value)
            self.wrong(InvalidSaying, {"at": -1}, taken_rows, HARD, value, None)
        for value in NO_SAYINGS + (("or", "p", "p"), ("and", "p")):
            self.wrong(InvalidSaying, {"at": 1}, possible_rows, AND, ["p", value, value])
            self.wrong(InvalidSaying, {"at": 1}, taken_rows, HARD, ["p", value], None)
        for sheet in NO_SHEETS:
            self.wrong(InvalidSheet, {"at": -1}, taken_rows, AND, (), sheet)
            self.wrong(InvalidSheet, {"at": -1}, taken_rows, HARD, list("abcdefg"), sheet)
            self.wrong(InvalidSheet, {"at": 0}, common_atoms, HARD, sheet, sheet)
            self.wrong(InvalidSheet, {"at": 1}, common_atoms, AND, ((), ()), sheet)
        wrong = {"right": 3, "left": 2, "row": (1,)}
        letters = list("abcdefghijklmno")
        self.wrong(NotCalm, wrong, possible_rows, HARD, letters)
        self.wrong(NotCalm, wrong, taken_rows, HARD, letters, ((), ()))
        self.wrong(NotCalm, wrong, common_atoms, HARD, (letters, []), (letters, []))
        self.wrong(Refused, {"at": 6}, possible_rows, SO, letters)
        self.wrong(Refused, {"at": 6}, possible_rows, SO, letters[:7])
        self.wrong(Refused, {"at": 6}, taken_rows, SO, letters[:7], (letters, []))
        self.assertEqual(len(possible_rows(SO, letters[:6] * 3)), 64)
        deep = "p"
        for _ in range(13):
            deep = ("so", deep)
        self.assertEqual(possible_rows(SO, [deep]), ((0,), (1,)))
        self.wrong(InvalidSize, {"word": "sayings"}, possible_rows, SO, [("so", deep)])
        self.assertEqual(taken_rows(SO, [deep], ((deep,), ())), ((1,),))
        self.wrong(InvalidSize, {"word": "sayings"}, taken_rows, SO, [deep], (("q",), ()))
        self.wrong(InvalidSize, {"word": "sayings"}, taken_rows, SO, [], (letters, []))


class MiddlesTest(Wrong, unittest.TestCase):
    def test_some_middle(self):
        found = {True: 0, False: 0}
        for book, (first, second) in some_sides(244, 300):
            middle = some_middle(book, first, second)
            proved = follows(book, (), put_beside(first, second))
            self.assertEqual(middle is not None, proved)
            found[proved] += 1
            if proved:
                self.assertTrue(right_middle(book, first, second, middle), (book.rules, first, second, middle))
                self.assertIs(middle_holds(book, first, second, middle), True)
                # What a middle is, by proofs: the first side with each sheet, the second one from all.
                for sheet in middle:
                    self.assertEqual(sheet_paper(book, put_beside(first, sheet))[0], "proof")
                self.assertTrue(follows(book, middle, second))
            else:
                self.assertEqual((first_middle(book, first, second), last_middle(book, first, second)), (None, None))
                self.assertIsNone(fewest_atoms(book, first, second))
                self.assertEqual(middle_count(book, first, second), 0)
                self.assertIs(middle_holds(book, first, second, None), False)
                self.assertIs(middle_holds(book, first, second, ()), False)
        self.assertGreater(min(found.values()), 80)

    def test_first_and_last(self):
        for book, (first, second) in some_sides(245, 300):
            if not follows(book, (), put_beside(first, second)):
                continue
            atoms = atoms_of(book, first, second)
            one, other = rows_by_worlds(book, atoms, first), rows_by_worlds(book, atoms, second)
            if first == ((), ()):
                one = rows_by_worlds(book, atoms)
            if second == ((), ()):
                other = rows_by_worlds(book, atoms)
            rest = [row for row in rows_by_worlds(book, atoms) if row not in other]
            for kept, middle in ((one, first_middle(book, first, second)), (rest, last_middle(book, first, second))):
                every = [sheet for sheet in all_sheets(atoms) if all(keeps(atoms, row, sheet) for row in kept)]
                least = [sheet for sheet in every if not any(
                    set(less[0]) <= set(sheet[0]) and set(less[1]) <= set(sheet[1]) and less != sheet for less in every)]
                self.assertEqual(middle, tuple(least))
                self.assertIs(middle_holds(book, first, second, middle), True)

    def test_count_and_order_of_all_middles(self):
        """All lots of sheets of few atoms, gone through one by one."""
        tried = 0
        for book, (first, second) in some_sides(246, 400):
            atoms = atoms_of(book, first, second)
            possible = rows_by_worlds(book, atoms)
            if len(atoms) > 2 or not follows(book, (), put_beside(first, second)):
                continue
            unlike = set()
            early, late = first_middle(book, first, second), last_middle(book, first, second)
            for lot in lots(all_sheets(atoms)):
                if right_middle(book, first, second, lot):
                    unlike.add(tuple(row for row in possible if all(keeps(atoms, row, sheet) for sheet in lot)))
                    if len(lot) < 3:
                        self.assertIs(middle_holds(book, first, second, lot), True)
                        self.assertTrue(all(follows(book, early, sheet) for sheet in lot))
                        self.assertTrue(all(follows(book, lot, sheet) for sheet in late))
                elif len(lot) < 3:
                    self.assertIs(middle_holds(book, first, second, lot), False)
            self.assertEqual(middle_count(book, first, second), len(unlike))
            tried += len(atoms)
            if tried > 24:
                break
        self.assertGreater(tried, 12)

    def test_fewest_atoms(self):
        tried = 0
        for book, (first, second) in some_sides(247, 300):
            if not follows(book, (), put_beside(first, second)):
                continue
            atoms = atoms_of(book, first, second)
            enough = []
            for lot in lots(atoms):
                sheets = [sheet for sheet in all_sheets(lot) if follows(book, (), put_beside(first, sheet))]
                if follows(book, sheets, second) and not any(set(less) <= set(lot) for less in enough):
                    enough.append(lot)
            self.assertEqual(fewest_atoms(book, first, second), tuple(enough))
            tried += len(atoms) > 1
        self.assertGreater(tried, 20)

    def test_examples_and_edges(self):
        first, third = read_sheet("and(p, and(q, so(q))) |"), read_sheet("r | and(so(q), q)")
        middle = (((), ("q",)), ((), (("so", "q"),)))
        self.assertIs(middle_holds(SO, first, third, middle), True)
        for value in (middle[::-1], middle[:1], middle + middle[1:], listed(middle), (((), ("q", ("so", "q"))),),
                      (((), ("p",)),) + middle, (((), ("r",)),) + middle, (), None, (((), ()),), (((), (("so", "q"), "q")),)):
            self.assertIs(middle_holds(SO, first, third, value), False, value)
        self.assertIs(middle_holds(SO, first, third, (((), ("q",)), ((), (("so", "q"),)), (("q",), ("q",)))), True)
        self.assertIs(middle_holds(SO, first, third, ((("q",), (("so", "q"),)), ((), ("q",)))), False)
        self.assertIs(middle_holds(SO, first, third, (((), ("q",)), (("q",), (("so", "q"),)))), True)
        self.assertEqual(fewest_atoms(SO, first, third), (("q", ("so", "q")),))
        # An empty side: the other one has a proof alone.
        sheet = (("p",), ("p",))
        self.assertEqual(first_middle(EMPTY, sheet, ((), ())), (((), ()),))
        self.assertEqual(some_middle(EMPTY, ((), ()), sheet), ())
        self.assertEqual(last_middle(EMPTY, ((), ()), sheet), ())
        self.assertEqual(middle_count(EMPTY, sheet, ((), ())), 1)
        self.assertEqual(middle_count(EMPTY, sheet, sheet), 4)
        self.assertEqual(fewest_atoms(EMPTY, sheet, sheet), ((),))
        self.assertEqual(middle_count(EMPTY, sheet, (("q",), ("q",))), 2)
        self.assertIsNone(some_middle(EMPTY, ((), ()), ((), ())))
        self.assertIsNone(middle_chain(EMPTY, [((), ()), ((), ())]))
        self.assertIs(middle_holds(EMPTY, ((), ()), ((), ()), (((), ()),)), False)
        self.assertEqual(first_middle(EMPTY, (("p",), ()), ((), ("p",))), (((), ("p",)),))
        self.assertEqual(first_middle(EMPTY, ((), ("p",)), (("p",), ())), ((("p",), ()),))
        self.assertEqual(last_middle(MAY, ((("may", "p"), "p"), ()), ((), (("may", "p"), "p"))),
                         ((((), (("may", "p"),)),)))

    def test_any_values(self):
        for book, (first, second) in some_sides(248, 60, most=5):
            middle = some_middle(book, first, second)
            values = list(JUNK) + [None] + ([] if middle is None else list(changed(middle)) + [listed(middle)])
            for value in values:
                self.assertIs(middle_holds(book, first, second, value), right_middle(book, first, second, value),
                              (book.rules, first, second, value))
                self.assertIs(chain_holds(book, [first, second], (value,)), right_middle(book, first, second, value))

    def test_wrong(self):
        letters = list("abcdefg")
        calls = ((common_atoms, ()), (some_middle, ()), (first_middle, ()), (last_middle, ()), (middle_count, ()),
                 (fewest_atoms, ()), (middle_holds, (None,)))
        for call, more in calls:
            for value in JUNK:
                if not isinstance(value, Book):
                    self.wrong(InvalidBook, {"at": -1}, call, value, None, None, *more)
            for sheet in NO_SHEETS:
                self.wrong(InvalidSheet, {"at": 0}, call, HARD, sheet, sheet, *more)
                self.wrong(InvalidSheet, {"at": 1}, call, HARD, (letters, []), sheet, *more)
            self.wrong(NotCalm, {"right": 3, "left": 2, "row": (1,)}, call, HARD, (letters, []), (letters, []), *more)
            self.wrong(Refused, {"at": 6}, call, SO, (letters, []), (letters, []), *more)
            self.wrong(Refused, {"at": 6}, call, SO, (letters, []), ((), letters), *more)
            call(SO, (letters, []), (letters[:6], []), *more)

    def test_six_atoms(self):
        letters = tuple("abcdef")
        odd = Book([("x", 2)], [("x", "right", [((1, 2), ()), ((), (1, 2))]), ("x", "left", [((1,), (2,)), ((2,), (1,))])])
        chain, back = "a", "f"
        for letter in letters[1:]:
            chain = ("x", chain, letter)
        for letter in letters[-2::-1]:
            back = ("x", letter, back)
        first, second = ((chain,), ()), ((), (back,))
        self.assertEqual(common_atoms(odd, first, second), letters)
        middle = first_middle(odd, first, second)
        self.assertEqual(len(middle), 32)
        self.assertIs(middle_holds(odd, first, second, middle), True)
        self.assertEqual(middle, last_middle(odd, first, second))
        self.assertEqual(middle_count(odd, first, second), 1)
        self.assertEqual(fewest_atoms(odd, first, second), (letters,))
        self.assertIs(middle_holds(odd, first, second, middle[1:]), False)
        many = [sheet for sheet in all_sheets(letters, True) if set(sheet[0]) & set(sheet[1])][:49]
        told = tuple(sorted(middle + tuple(many), key=sheet_key))
        self.assertEqual(len(told), 81)
        self.assertIs(middle_holds(odd, first, second, told), True)
        self.assertIs(middle_holds(odd, first, second, told[::-1]), False)


class ChainsTest(Wrong, unittest.TestCase):
    def test_chains(self):
        found = {True: 0, False: 0}
        for many in (2, 3, 4):
            for book, sides in some_sides(250 + many, 120, sides=many):
                chain = middle_chain(book, sides)
                proved = sheet_paper(book, joined(sides))[0] == "proof"
                self.assertEqual(chain is not None, proved)
                found[proved] += 1
                self.assertIs(chain_holds(book, sides, None), False)
                if proved:
                    self.assertTrue(right_chain(book, sides, chain), (book.rules, sides, chain))
                    self.assertIs(chain_holds(book, sides, chain), True)
                    cuts = tuple(first_middle(book, joined(sides[:at]), joined(sides[at:])) for at in range(1, many))
                    self.assertIs(chain_holds(book, listed(sides), cuts), True)
                    self.assertEqual(middle_chain(book, listed(sides)), chain)
        self.assertGreater(min(found.values()), 100)

    def test_any_values(self):
        for many in (3, 4):
            for book, sides in some_sides(260 + many, 16, sides=many, most=5):
                chain = middle_chain(book, sides)
                if chain is None:
                    continue
                lasts = tuple(last_middle(book, joined(sides[:at]), joined(sides[at:])) for at in range(1, many))
                values = list(JUNK) + list(changed(chain))[::3] + [
                    listed(chain), lasts, lasts[:1] + chain[1:], chain[:1] + lasts[1:], ((),) * (many - 1)]
                for value in values:
                    self.assertIs(chain_holds(book, sides, value), right_chain(book, sides, value),
                                  (book.rules, sides, value))

    def test_examples(self):
        sides = [(("p",), ()), ((), ("r",)), (("r",), ("p",))]
        self.assertIs(chain_holds(EMPTY, sides, ((((), ("p",)),), (((), ("p",)),))), True)
        self.assertIs(chain_holds(EMPTY, sides, ((((), ("p",)),), (((), ("p", "r")),))), False)
        self.assertIs(chain_holds(EMPTY, sides, ((((), ("p",)),), (((), ("p", "r")), (("r",), ())))), True)
        self.assertIs(chain_holds(EMPTY, sides, ((((), ("p",)),), ((("r",), ()), ((), ("p", "r"))))), False)
        self.assertIs(chain_holds(EMPTY, sides, ((), ((("r",), ()),))), True)
        self.assertIs(chain_holds(EMPTY, sides, ((((), ("p",)),),)), False)
        self.assertIs(chain_holds(EMPTY, sides, ((((), ("p",)),), (((), ("q",)),))), False)
        # An atom of the cut alone: r is a part of both sides of the second one, not of the first one.
        self.assertIs(chain_holds(EMPTY, sides, ((((), ("p",)), (("r",), ("r",))), (((), ("p",)),))), False)
        self.assertIs(chain_holds(EMPTY, [((), ())] * 2, ((),)), False)
        self.assertEqual(middle_chain(EMPTY, [(("p",), ("p",)), ((), ()), ((), ())]), ((((), ()),), (((), ()),)))

    def test_wrong(self):
        for value in JUNK:
            if not isinstance(value, Book):
                self.wrong(InvalidBook, {"at": -1}, middle_chain, value, None)
                self.wrong(InvalidBook, {"at": -1}, chain_holds, value, None, None)
        letters = list("abcdefg")
        side = (letters, [])
        for call, more in ((middle_chain, ()), (chain_holds, (None,))):
            for sheets in (None, 5, "|", EMPTY, True):
                self.wrong(InvalidSheet, {"at": -1}, call, HARD, sheets, *more)
            for sheet in NO_SHEETS:
                self.wrong(InvalidSheet, {"at": 0}, call, HARD, [sheet], *more)
                self.wrong(InvalidSheet, {"at": 2}, call, HARD, [side, side, sheet, sheet], *more)
            for sheets in ((), [side], [side, side]):
                self.wrong(NotCalm, {"right": 3, "left": 2, "row": (1,)}, call, HARD, sheets, *more)
            for sheets in ((), [], [side], (side,)):
                self.wrong(Refused, {"at": -1}, call, SO, sheets, *more)
            self.wrong(Refused, {"at": 6}, call, SO, [side, side], *more)
            self.wrong(Refused, {"at": 6}, call, SO, [(("a",), ()), side, side], *more)
            self.wrong(Refused, {"at": 6}, call, SO, [side, ((), ()), ((), letters)], *more)
            call(SO, [side, (letters[:6], []), (letters[:6], [])], *more)


class ProofsTest(unittest.TestCase):
    def test_a_middle_cuts_a_proof_in_two(self):
        """The proofs that a middle speaks of are there and hold."""
        for book, (first, second) in some_sides(249, 60):
            for sheet in some_middle(book, first, second) or ():
                whole = put_beside(first, sheet)
                self.assertIs(sheet_holds(book, whole, sheet_paper(book, whole)), True)
                self.assertLessEqual(set(sheet[0] + sheet[1]), set().union(*map(parts, first[0] + first[1] or ("p",))))


if __name__ == "__main__":
    unittest.main()
