"""[58] and [59], and what [7], [10] and [23] say where the desk shows it: commands, and proofs in lines."""

import random
import unittest

from saymakers.books import Book, book_text, maker_table, put_rules, rule_text
from saymakers.court import is_calm
from saymakers.desk import Desk
from saymakers.errors import (
    InvalidCommand, InvalidFacts, InvalidIndex, InvalidMakers, InvalidRules, InvalidSheet, InvalidSize, InvalidText, NoMaker, NoRule,
    Refused, SayError)
from saymakers.live import Live
from saymakers.sayings import read_saying, read_sheet, sheet_text
from tests.some_proofs import random_saying
from tests.test_facts import random_sheet
from tests.test_middles import follows
from tests.test_worlds import closed, right_world
from tests.tools import EMPTY, JUNK, LOGIC, Wrong, is_kept, premises_of, random_book, sheet_of

AND = ("start", "maker and 2", "right and: | 1; | 2", "left and: 1 2 |")
NO_FORMS = (
    "", " ", "START", "Start", "start ", " start", "start start", "start\n", "stop", "maker", "maker m", "maker m 4", "maker m 1 2",
    "maker M 1", "maker m one", "maker m 01", "maker m -1", "Maker m 1", "maker m 1\n", "maker m\n1", "maker abcdefghi 1", "MAKER m 1",
    "right", "right m", "right m | 1", "right m: | 4", "right m: | 0", "right m: 1", "right m: 1 | 2 | 3", "right m: | 12", "right M: | 1",
    "Right m: | 1", "right m: | 1;", "right m: ; | 1", "right m n: | 1", "right m: | 1\n", "right m: | 1\nleft m: 1 |", "left m; 1 |",
    "left m: | a", "up m: | 1", "drop", "drop ", "drop  m", "drop m ", " drop m", "drop M", "drop m n", "drop m1", "drop m\n", "DROP m",
    "rename", "rename m", "rename m ", "rename m n o", "rename  m n", "rename m  n", "rename m n ", "rename M n", "rename m N", "rename m\nn",
    "strike", "strike ", "strike x", "strike 00", "strike 01", "strike 10000", "strike -1", "strike +1", "strike 1 ", "strike  1", "strike 1.",
    "strike 1 2", "strike 1\n", "strike \u0661", "strike \u00b2", "unfact", "unfact x", "unfact 007", "unfact 12345", "unfact  0", "unfact 0 ",
    "fact", "asks", "world", "proof", "would", "facts ", " facts", "facts p", "Facts", "undo 1", "undo ", "redo now", "redo\n", "UNDO",
    "book ", "book m", "turned ", "turned all", "table", "table ", "table  m", "table m ", "table M", "table m n", "would ", "would m: | 1",
    "would right m", "would up m: | 1", "would maker m 1", "would right m: | 5", "would right m: | 1\n", "would asks p |", "ask p | q",
    "asks:p | q", "asks\np | q", "proofs p | q", "p | q", "and(p, q)", "start; start", "undo;redo")


def desk_of(*commands):
    """A desk to which these were said, each done."""
    desk = Desk()
    for command in commands:
        assert desk.say(command) == "done", command
    return desk


def state_of(desk):
    """What the desk's live book holds."""
    return None if desk.live is None else (desk.live.book, desk.live.facts)


def taken_apart(text):
    """(sheet, word, what, numbers) of a line without its number."""
    head, how = text.split(" by ")
    words = how.split(" from ")
    numbers = [int(word) for word in words[1].split(", ")] if len(words) > 1 else []
    kind, _, what = words[0].partition(" ")
    return read_sheet(head), kind, what, numbers


def end_by(book, facts, word, what, ends, sheet):
    """What the line comes to by the ends of the lines that it needs, as a pair of sets; the sheet is the line's own."""
    left, right = [set(side) for side in sheet]
    if word == "start":
        assert not what and not ends and left == right and len(left) == 1
        return left, right
    if word == "fact":
        assert not ends
        return tuple(map(set, facts[int(what)]))
    if word == "thin":
        assert not what and len(ends) == 1 and ends[0][0] <= left and ends[0][1] <= right
        return left, right
    if word == "join":
        assert what.startswith("on ") and len(ends) == 2
        saying = read_saying(what[3:])
        (one, other), (more, too) = ends
        return one | (more - {saying}), (other - {saying}) | too
    assert word == "rule"
    name, side, premises = book.rules[int(what)]
    assert len(ends) == len(premises)
    own = [saying for saying in (left if side == "left" else right) if not isinstance(saying, str) and saying[0] == name]
    for whole in own:
        found = [{whole}, set()] if side == "left" else [set(), {whole}]
        for premise, end in zip(premises, ends):
            for at in (0, 1):
                found[at] |= end[at] - {whole[k] for k in premise[at]}
        if found == [left, right]:
            return left, right
    return None


def check_lines(test, book, facts, text, sheet, joins=None):
    """Each line against the lines that it needs, the whole last, no part twice; the sayings of the joins are told."""
    ends, seen, used = [], set(), set()
    lines = text.split("\n")
    for at, line in enumerate(lines):
        number, _, rest = line.partition(": ")
        test.assertEqual(number, str(at))
        test.assertNotIn(rest, seen)
        seen.add(rest)
        own, word, what, numbers = taken_apart(rest)
        test.assertEqual(rest.split(" by ")[0], sheet_text(own))
        test.assertTrue(all(kid < at for kid in numbers))
        test.assertEqual(end_by(book, facts, word, what, [ends[kid] for kid in numbers], own), tuple(map(set, own)), line)
        if joins is not None and word == "join":
            test.assertIn(read_saying(what[3:]), joins)
        ends.append(tuple(map(set, own)))
        used |= set(numbers)
    test.assertEqual(ends[-1], tuple(map(set, sheet)))
    # The whole last: each other line is needed by a later one.
    test.assertEqual(used, set(range(len(lines) - 1)))


class CommandsTest(Wrong, unittest.TestCase):
    def test_before_a_first_start(self):
        desk = Desk()
        self.assertIsNone(desk.live)
        for command in NO_FORMS + ("maker m 1", "undo", "redo", "book", "facts", "turned", "asks |", "drop m", "strike 0", "table m",
                                   "would right m: | 1", "right m: | 1", "fact p |", "unfact 0", "world |", "proof |"):
            self.wrong(InvalidCommand, {}, desk.say, command)
            self.assertIsNone(desk.live)
        for value in tuple(value for value in JUNK if value != "start") + (b"start", ["start"], ("start",), EMPTY, desk):
            self.wrong(InvalidCommand, {}, desk.say, value)
        self.assertIsNone(desk.live)
        self.assertEqual(desk.say("start"), "done")
        self.assertIsInstance(desk.live, Live)
        self.assertEqual(desk.say("book"), "none")

    def test_no_forms(self):
        desk = desk_of("start", "maker m 2", "right m: | 1", "fact p | m(p, q)", "maker n 0")
        live, state = desk.live, state_of(desk)
        for command in NO_FORMS + tuple(value for value in JUNK if not isinstance(value, str)):
            self.wrong(InvalidCommand, {}, desk.say, command)
            self.assertIs(desk.live, live)
            self.assertEqual(state_of(desk), state)
        self.assertEqual([desk.say("undo") for _ in range(5)], ["yes"] * 4 + ["no"])

    def test_deeds(self):
        desk = Desk()
        for command, shown in (
                ("start", "done"), ("book", "none"), ("facts", "none"), ("turned", "none"), ("undo", "no"), ("redo", "no"),
                ("maker and 2", "done"), ("right and: | 1; | 2", "done"), ("left and:1 2|", "done"), ("maker top 0", "done"),
                ("book", "maker and 2\nmaker top 0\nleft and: 1 2 |\nright and: | 1; | 2"), ("right top:", "done"),
                ("undo", "yes"), ("redo", "yes"), ("redo", "no"), ("strike 2", "done"),
                ("book", "maker and 2\nmaker top 0\nleft and: 1 2 |\nright and: | 1; | 2"), ("undo", "yes"),
                ("fact and(p, top()) | q", "done"), ("fact | ", "done"), ("facts", "0: and(p, top()) | q\n1: |"),
                ("rename top t", "done"), ("facts", "0: and(p, t()) | q\n1: |"), ("unfact 1", "done"), ("unfact 0", "done"),
                ("facts", "none"), ("drop t", "done"), ("table and", "f f f\nf t f\nt f f\nt t t"), ("start", "done"), ("book", "none"),
                ("undo", "no")):
            self.assertEqual(desk.say(command), shown, command)
        self.assertEqual(desk.say(command="book"), "none")

    def test_blanks_where_they_are_let(self):
        for command in ("maker  m   2", " maker m 2", "maker m 2  "):
            desk = desk_of("start", command)
            self.assertEqual(desk.live.book.makers, (("m", 2),))
        for command in ("right m:|1;|2", "  right   m  :  | 1 ;| 2  ", "right m: |2;|1;|1"):
            desk = desk_of("start", "maker m 2", command)
            self.assertEqual(desk.say("book"), "maker m 2\nright m: | 1; | 2")
        for command in ("fact m(p,q)|p", "fact   m ( p , q )  |  p ", "fact m(p, q), m(p, q) | p"):
            desk = desk_of("start", "maker m 2", command)
            self.assertEqual(desk.say("facts"), "0: m(p, q) | p")
        for command in ("asks p|p", "asks  p  |p ", "asks   p,p|q,p"):
            self.assertEqual(desk.say(command), "yes")
        for command in ("would right m:|1", "would  right m: | 1", "would right  m : |1 "):
            self.assertEqual(desk.say(command), "calm")

    def test_errors_of_what_is_done(self):
        desk = desk_of("start", "maker m 2", "right m: | 1", "maker t 0", "fact p | m(p, q)")
        live, state = desk.live, state_of(desk)
        desk.say("asks p | q")
        for command, error, told in (
                ("maker m 3", Refused, {"at": "maker"}), ("right m: | 1", Refused, {"at": "rule"}), ("left m: | 2", Refused, {"at": "clash"}),
                ("right x: | 1", InvalidRules, {"at": -1}), ("right m: | 3", InvalidRules, {"at": -1}), ("left t: 1 |", InvalidRules, {"at": -1}),
                ("drop x", NoMaker, {"name": "x"}), ("drop m", Refused, {"at": "facts"}), ("rename x y", NoMaker, {"name": "x"}),
                ("rename m t", Refused, {"at": "maker"}), ("rename m m", Refused, {"at": "maker"}), ("strike 1", NoRule, {"number": 1}),
                ("strike 9999", NoRule, {"number": 9999}), ("unfact 1", InvalidIndex, {"at": -1}), ("unfact 9999", InvalidIndex, {"at": -1}),
                ("fact p | m(p, q)", Refused, {"at": "fact"}), ("fact p, p | m(p,q)", Refused, {"at": "fact"}),
                ("fact p | m(p)", InvalidSheet, {"at": -1}), ("fact p", InvalidText, {"at": 1}), ("fact ", InvalidText, {"at": 0}),
                ("fact p | Q", InvalidText, {"at": 4}), ("fact p | q\n", InvalidText, {"at": 5}), ("asks \n| q", InvalidText, {"at": 0}),
                ("table x", NoMaker, {"name": "x"}), ("would right x: | 1", InvalidRules, {"at": -1}),
                ("would left m: | 3", InvalidRules, {"at": -1}), ("would left t: 1 |", InvalidRules, {"at": -1})):
            self.wrong(error, told, desk.say, command)
            self.assertIs(desk.live, live)
            self.assertEqual(state_of(desk), state)
        for word in ("asks", "world", "proof"):
            for text, error, told in (("p", InvalidText, {"at": 1}), ("p | q | r", InvalidText, {"at": 6}), ("p | q\n", InvalidText, {"at": 5}),
                                      ("| x(p)", InvalidSheet, {"at": -1}), ("| m(p)", InvalidSheet, {"at": -1}), ("", InvalidText, {"at": 0}),
                                      ("a, b, c, d, e, f, g, h, i, j, k, l |", InvalidSize, {"word": "sayings"}), ("p, | q", InvalidText, {"at": 3})):
                self.wrong(error, told, desk.say, f"{word} {text}")
                self.assertEqual(state_of(desk), state)
        self.assertEqual([desk.say("undo") for _ in range(5)], ["yes"] * 4 + ["no"])

    def test_a_live_book_that_is_started_again(self):
        desk = desk_of("start", "maker m 1")
        first = desk.live
        desk.say("start")
        self.assertIsNot(desk.live, first)
        self.assertEqual(first.book.makers, (("m", 1),))
        self.assertEqual(desk.live.book, EMPTY)
        other = desk_of("start")
        other.say("maker n 1")
        self.assertEqual(desk.say("book"), "none")
        for call in (iter, list, len):
            with self.assertRaises(TypeError):
                call(desk)

    def test_sizes_of_facts(self):
        desk = desk_of("start")
        for at in range(41):
            desk.say("fact " + ", ".join("ab"[at >> bit & 1] + "cdefgh"[bit] for bit in range(6)) + " |")
        self.wrong(InvalidFacts, {"at": -1}, desk.say, "asks p | p")
        self.wrong(InvalidFacts, {"at": -1}, desk.say, "proof p | p")
        # Nothing was asked, so nothing is turned.
        self.assertEqual(desk.say("turned"), "none")


class ShownTest(unittest.TestCase):
    def test_tables(self):
        desk = desk_of("start", "maker may 1", "right may: | 1", "maker t 0", "maker f 0", "left f:", "maker o 0", "right t:",
                       "maker most 3", "right most: | 1 2; | 1 3; | 2 3")
        for name, shown in (("may", "f open\nt t"), ("t", "t"), ("f", "f"), ("o", "open"),
                            ("most", "f f f open\nf f t open\nf t f open\nf t t t\nt f f open\nt f t t\nt t f t\nt t t t")):
            self.assertEqual(desk.say("table " + name), shown)

    def test_books_in_their_texts(self):
        rng = random.Random(580)
        for _ in range(40):
            book = random_book(rng, calm=True)
            desk = desk_of("start", *[line for line in book_text(book).split("\n")])
            self.assertEqual(desk.live.book, book)
            self.assertEqual(desk.say("book"), book_text(book))
            for name, places in book.makers:
                words = {0: "f", 1: "t", None: "open"}
                self.assertEqual([line.split(" ")[-1] for line in desk.say("table " + name).split("\n")],
                                 [words[truth] for truth in maker_table(book, name)])

    def test_asks_worlds_and_proofs(self):
        rng = random.Random(581)
        met = {}
        for at in range(250):
            book = rng.choice((LOGIC, random_book(rng, rules=6, calm=True), random_book(rng, [("m", 2)], 6, calm=True)))
            lot = list(closed([random_saying(rng, book, 2), random_saying(rng, book, 1), "p"]))
            if len(lot) > 6:
                continue
            facts = []
            for _ in range(rng.randint(0, 3)):
                facts += [fact for fact in [random_sheet(rng, lot, 2)] if fact not in facts]
            sheet = random_sheet(rng, lot)
            desk = desk_of("start", *book_text(book).split("\n"), *["fact " + sheet_text(fact) for fact in facts])
            text = sheet_text(sheet)
            right = follows(book, facts, sheet)
            commands = [f"{word} {text}" for word in ("asks", "world", "proof")]
            rng.shuffle(commands)
            shown = {command.split(" ")[0]: desk.say(command) for command in commands}
            self.assertEqual(shown["asks"], "yes" if right else "no")
            met[right] = met.get(right, 0) + 1
            if right:
                self.assertEqual(shown["world"], "none")
                joins = {saying for fact in facts for side in fact for saying in side}
                check_lines(self, book, facts, shown["proof"], sheet, joins)
                continue
            self.assertEqual(shown["proof"], "none")
            told = [line.rpartition(" ") for line in shown["world"].split("\n")] if shown["world"] != "none" else []
            world = tuple((read_saying(saying), "ft".index(truth)) for saying, _, truth in told)
            self.assertTrue(right_world(book, world))
            self.assertEqual(tuple(dict(world)), closed([saying for each in facts + [sheet] for side in each for saying in side]))
            self.assertTrue(all(is_kept(dict(world), *fact) for fact in facts) and not is_kept(dict(world), *sheet))
        self.assertGreater(min(met.values()), 40)

    def test_lines(self):
        desk = desk_of("start", "maker tonk 2", "right tonk: | 1")
        self.assertEqual(desk.say("asks p | tonk(p, q)"), "yes")
        self.assertEqual(desk.say("proof p | tonk(p, q)"), "0: p | p by start\n1: p | tonk(p, q) by rule 0 from 0")
        self.assertEqual(desk.say("proof p, r | p"), "0: p | p by start\n1: p, r | p by thin from 0")
        self.assertEqual(desk.say("world p | q"), "p t\nq f")
        self.assertEqual(desk.say("world tonk(p, q) |"), "p f\nq f\ntonk(p, q) t")
        self.assertEqual(desk.say("world |"), "none")
        self.assertEqual(desk.say("proof |"), "none")
        self.assertEqual(desk.say("asks |"), "no")
        self.assertEqual(desk.say("fact p | q"), "done")
        self.assertEqual(desk.say("proof p | q"), "0: p | q by fact 0")
        self.assertEqual(desk.say("fact |"), "done")
        self.assertEqual(desk.say("proof |"), "0: | by fact 1")
        self.assertEqual(desk.say("world |"), "none")
        desk = desk_of("start", "maker t 0", "right t:", "fact | p", "fact p | q")
        self.assertEqual(desk.say("proof | t()"), "0: | t() by rule 0")
        check_lines(self, desk.live.book, desk.live.facts, desk.say("proof | q"), ((), ("q",)), ["p", "q"])
        self.assertIn("join on p from ", desk.say("proof | q"))
        self.assertEqual(len(desk.say("proof | q").split("\n")), 3)

    def test_no_part_twice(self):
        desk = desk_of(*AND, "maker no 1", "right no: 1 |", "left no: | 1")
        for text in ("p | and(p, p)", "p | and(and(p, p), and(p, p))", "no(and(p, p)) | and(no(p), no(p))", "and(p, q) | and(q, and(p, q))"):
            shown = desk.say("proof " + text)
            check_lines(self, desk.live.book, (), shown, read_sheet(text))
        self.assertEqual(desk.say("proof p | and(p, p)"), "0: p | p by start\n1: p | and(p, p) by rule 1 from 0, 0")

    def test_would(self):
        rng = random.Random(582)
        met = {}
        for _ in range(200):
            book = random_book(rng, rng.choice((None, [("m", 2)], [("m", 3)], [("t", 0)])), 4, calm=True)
            desk = desk_of("start", *book_text(book).split("\n"))
            name, places = rng.choice(book.makers)
            lot = premises_of(places)
            rule = (name, rng.choice(("left", "right")), rng.sample(lot, min(len(lot), rng.randint(0, 2))))
            greater = put_rules(book, [rule])
            shown = desk.say("would " + rule_text(book, rule))
            self.assertEqual(shown == "calm", is_calm(greater))
            if shown != "calm":
                check_lines(self, greater, (), shown, (("q",), ("r",)))
            self.assertEqual(desk.live.book, book)
            met[shown == "calm"] = met.get(shown == "calm", 0) + 1
        self.assertGreater(min(met.values()), 30)
        desk = desk_of("start", "maker tonk 2", "right tonk: | 1")
        self.assertEqual(desk.say("would right tonk: | 1"), "calm")
        self.assertEqual(desk.say("would left tonk: 1 |"), "calm")
        shown = desk.say("would left tonk: 2 |")
        check_lines(self, Book([("tonk", 2)], [("tonk", "right", [((), (1,))]), ("tonk", "left", [((2,), ())])]), (), shown,
                    sheet_of(["q"], ["r"]))
        self.assertEqual(desk.say("undo"), "yes")

    def test_turned(self):
        desk = desk_of("start", "maker may 1")
        self.assertEqual([desk.say("asks " + text) for text in ("p | may(p)", "may(p) | p", "p | q", "| may(q)")], ["no"] * 4)
        self.assertEqual(desk.say("turned"), "none")
        desk.say("right may: | 1"), desk.say("fact | q")
        self.assertEqual(desk.say("turned"), "p | may(p)\np | q\n| may(q)")
        # What worlds and proofs ask is asked, too.
        self.assertEqual(desk.say("world p | may(p)"), "none")
        self.assertEqual(desk.say("turned"), "p | q\n| may(q)")
        self.assertEqual(desk.say("proof p | q").split("\n")[-1], "1: p | q by thin from 0")
        self.assertEqual(desk.say("turned"), "| may(q)")
        desk.say("undo")
        self.assertEqual(desk.say("turned"), "p | q")
        self.assertEqual(desk.say("facts"), "none")

    def test_many_commands(self):
        # A hundred and fifty commands, drawn: what is shown is what the live book holds.
        rng = random.Random(583)
        for _ in range(6):
            desk = desk_of("start")
            asked, facts = [], 0
            for _ in range(150):
                name = rng.choice("mno")
                command = rng.choice((
                    f"maker {name} {rng.randint(0, 2)}", f"right {name}: | 1", f"left {name}: 1 |", f"left {name}: | {rng.randint(1, 2)}",
                    f"drop {name}", f"rename {name} {rng.choice('mno')}", f"strike {rng.randint(0, 3)}", f"fact {name}(p) | q", "fact | p",
                    f"unfact {rng.randint(0, 1)}", "undo", "redo", "book", "facts", "turned", f"table {name}", f"asks p | {name}(p)",
                    f"asks {name}(p) | p", f"world | {name}(p, q)", f"proof {name}(p), p | {name}(p), q", f"would right {name}:", "asks p | q"))
                before = state_of(desk)
                try:
                    shown = desk.say(command)
                except SayError:
                    self.assertEqual(state_of(desk), before)
                    continue
                self.assertIsInstance(shown, str)
                if command == "book":
                    self.assertEqual(shown, book_text(desk.live.book) or "none")
                elif command == "facts":
                    self.assertEqual(shown, "\n".join(f"{at}: {sheet_text(fact)}" for at, fact in enumerate(desk.live.facts)) or "none")
                elif command.startswith("asks"):
                    sheet = read_sheet(command[5:])
                    self.assertEqual(shown, "yes" if follows(desk.live.book, desk.live.facts, sheet) else "no")
                    asked.append(sheet)
                elif command.split(" ")[0] in ("maker", "right", "left", "drop", "rename", "strike", "fact", "unfact"):
                    self.assertEqual(shown, "done")
                    self.assertNotEqual(state_of(desk), before)
                facts = max(facts, len(desk.live.facts))
            self.assertGreater(len(asked) + facts, 3)
        with self.assertRaises(InvalidMakers):
            desk_of("start", *[f"maker {sign} 0" for sign in "abcdefghijklm"])


if __name__ == "__main__":
    unittest.main()
