"""[1] to [4]: equal calls give equal results, arguments stay as they are, objects are not iterable, errors by name."""

import copy
import importlib
import inspect
import itertools
import unittest

from saymakers.books import Book, read_book
from saymakers.checker import make_record
from saymakers.desk import Desk
from saymakers.live import Live
from saymakers.signs import Signed, plain_signed
from tests.tools import AND, EMPTY, LOGIC, MAY, NO, TONK, is_all_tuples, is_same, listed

WHOLE = ("and", "p", ("and", "q", "r"))
SHEET, OTHER = (("q", "p", "q"), (WHOLE,)), ((WHOLE, "p"), ())
FILLING = (("p", ("and", "p", "q")), ("q", "p"))
PREMISES = (((), (1,)), ((1,), (2,)), ((2, 1, 2), ()), ((), (1,)))
STEPS = ((0, 1, 1), (0, 2, 1), (4, 5, 2))
P, Q = ("start", "p"), ("start", "q")
RULE = ("rule", 1, ("p", "q"), (P, Q))
JOIN = ("join", ("and", "p", "q"), RULE, ("rule", 0, ("p", "q"), (P,)))
FACTS = (SHEET, ((), ("p",)))
SIGNED = plain_signed(TONK)
SIGN_RULES = (("m", (1, 0), (((0, 1), (2, 1)), ())), ("m", (2,), ()), ("m", (2, 2), ()))
ROW_OF_P = ((("p",), ("p",)), "start", "p", ())
NO_LOT = ("p", ("no", "p"))
HEAP = (((0, 0), (0, 1)), ((1, 0), (1,)))
SIDE, NEXT = (("q", "p"), ()), ((), (("and", "p", "q"), "q"))
MIDDLE = (((), ("p",)), ((), ("q",)))
PAIRS = ((1, ("tonk", "p", "q")), (0, "q"), (1, "p"), (0, "p"))
BARE = Book(MAY.makers, ())
TABLES = (("n", 1, (0, None)), ("m", 0, (1,)))
MAYS = ((("may", "q"), ("may", "p")), (("may", "p"),))
HALVES = ("half", (("p", 0), (("may", "p"), 2)))
TWO, BACK = ("and", "p", "q"), ("and", "q", "p")
TOLD = ((("q",), ("p",)), ((), ("q",)))
ROWS = ((1, 1), (0, 1), (1, 1), (1, 0))
AGAINST = ("world", (("p", 0), ("q", 1)))
STARS = read_book("maker half 1\nleft half: | 1\nmaker imp 2\nright imp: 1 | 2\nleft imp: | 1; 2 |\nmaker not 1\n"
                  "right not: 1 |\nleft not: | 1\nmaker id 1\nright id: | 1\nleft id: 1 |")
TOLD_NOT = ("imp", "a", ("half", "a"))
HALVED = ((("half", ("id", "p")),), (("half", "p"),))
FURTHER = ("tonk", "right", (((), (1, 2)), ((1,), (2,))))
LET = read_book("maker tonk 2\nright tonk: | 2")
JOINED = Signed(3, (("either", 1),), (("either", (0, 1), ()), ("either", (2, 0), (((1, 1), (0, 1)),))))
RECORD = make_record("strike", (TONK, (1, 2)))
UNFOLDED = ("neither", (("p", 1), ("q", 0)), (("p", 1), ("q", 0)))

# (module, name, arguments, the places of papers: there no lists stand)
CALLS = (
    ("sayings", "saying_depth", (WHOLE,), ()), ("sayings", "saying_text", (WHOLE,), ()),
    ("sayings", "saying_rank", (WHOLE,), ()), ("sayings", "saying_parts", (WHOLE,), ()),
    ("sayings", "closed_lot", ((WHOLE, "s", "p"),), ()), ("sayings", "saying_letters", (WHOLE,), ()),
    ("sayings", "fill_saying", (WHOLE, FILLING), ()), ("sayings", "put_beside", (SHEET, OTHER), ()),
    ("sayings", "lies_within", (SHEET, OTHER), ()), ("sayings", "is_start", (SHEET,), ()),
    ("sayings", "sheet_parts", (SHEET,), ()), ("sayings", "sheet_text", (SHEET,), ()),
    ("sayings", "fill_sheet", (SHEET, FILLING), ()), ("sayings", "read_saying", ("and(p, no(q))",), ()),
    ("sayings", "read_sheet", ("q, p | and(p, q)",), ()),
    ("books", "all_rows", (3,), ()), ("books", "premise_holds", (((2, 1), (3,)), (1, 1, 0)), ()),
    ("books", "Book", (LOGIC.makers[::-1], LOGIC.rules[::-1]), ()), ("books", "rule_awake", (AND, AND.rules[1], (1, 0)), ()),
    ("books", "awake_rows", (AND, 1), ()), ("books", "told_truths", (AND, "and", (1, 1)), ()),
    ("books", "maker_table", (MAY, "may"), ()), ("books", "rule_saying", (AND, 1, ("p", WHOLE)), ()),
    ("books", "rule_premises", (AND, 1, ("p", WHOLE[2]), SHEET), ()),
    ("books", "without_makers", (LOGIC, ("and", "no")), ()), ("books", "put_rules", (TONK, TONK.rules), ()),
    ("books", "struck_rules", (LOGIC, (2, 0, 2)), ()), ("books", "rule_text", (AND, AND.rules[1]), ()),
    ("books", "book_text", (LOGIC,), ()), ("books", "read_book", ("maker m 1\nleft m: 1 |",), ()),
    ("court", "bad_pairs", (TONK,), ()), ("court", "is_calm", (LOGIC,), ()), ("court", "need_calm", (LOGIC,), ()),
    ("court", "clash_steps", (PREMISES,), ()),
    ("court", "steps_hold", (PREMISES, STEPS), (1,)), ("court", "nonsense_proof", (TONK, "p", ("tonk", "p", "q")), ()),
    ("court", "even_truths", (NO,), ()), ("court", "court_paper", (LOGIC,), ()),
    ("court", "court_holds", (TONK, ("nonsense", 1, 0, (1, 0))), (1,)),
    ("leads", "prime_premises", (2, PREMISES), ()), ("leads", "rows_premises", (2, ((1, 0), (0, 1), (1, 0))), ()),
    ("leads", "lead_steps", (2, PREMISES[:2], ((), (2,))), ()),
    ("leads", "leads_hold", (2, PREMISES[:2], ((), (2,)), ((0, 1, 1),)), (3,)), ("leads", "prime_book", (LOGIC,), ()),
    ("proofs", "need_proof", (AND, ("join", "p", ("told", 1), P), FACTS), (1,)),
    ("proofs", "proof_end", (AND, ("join", "p", ("told", 1), RULE), FACTS), (1,)),
    ("proofs", "proof_holds", (AND, (("p",), ("p",)), P, FACTS), (2,)),
    ("proofs", "joined_sayings", (AND, JOIN), (1,)), ("proofs", "proof_height", (AND, JOIN), (1,)),
    ("proofs", "proof_rows", (AND, JOIN), (1,)), ("proofs", "row_proof", (AND, (ROW_OF_P, ROW_OF_P)), (1,)),
    ("proofs", "filled_proof", (AND, JOIN, FILLING), (1,)), ("proofs", "cut_short", (AND, RULE), (1,)),
    ("signs", "Signed", (3, (("n", 2), ("m", 1)), SIGN_RULES), ()), ("signs", "plain_signed", (LOGIC,), ()),
    ("signs", "awake_signed", (SIGNED, "tonk", (1, 0)), ()), ("signs", "signed_table", (SIGNED, "tonk"), ()),
    ("signs", "signed_court", (SIGNED,), ()), ("signs", "odds_hold", (SIGNED, ("odds", "tonk", (1, 0), (0, 1))), (1,)),
    ("signs", "signed_nonsense", (SIGNED,), ()),
    ("worlds", "is_world", (MAY, (("p", 0), (("may", "p"), 1))), (1,)),
    ("worlds", "next_truths", (MAY, (("p", 1), (("may", "p"), 1)), ("may", ("may", "p"))), ()),
    ("worlds", "keeps_sheet", ((("p", 1), ("q", 0)), (("q", "p", "p"), ())), ()),
    ("worlds", "world_count", (MAY, ("q", ("may", "p"))), ()), ("worlds", "nth_world", (MAY, ("q", ("may", "p")), 2), ()),
    ("worlds", "kept_count", (MAY, ("q", ("may", "p"))), ()),
    ("detours", "without_joins", (AND, JOIN), (1,)), ("detours", "join_out", (AND, JOIN), (1,)),
    ("heaps", "careful_fault", (LOGIC,), ()), ("heaps", "heap_holds", (NO, NO_LOT, HEAP), (2,)),
    ("heaps", "sheet_kept", (NO, NO_LOT, HEAP, (NO_LOT[::-1], ())), (2,)),
    ("judge", "sheet_paper", (AND, OTHER), ()), ("judge", "fewest_uses", (AND, SHEET), ()),
    ("judge", "sheet_holds", (AND, SHEET, ("world", (("p", 1), ("q", 1), ("r", 0)))), (2,)),
    ("middles", "possible_rows", (MAY, (("may", "p"), "p")), ()), ("middles", "taken_rows", (AND, ("q", "p"), NEXT), ()),
    ("middles", "common_atoms", (AND, SIDE, NEXT), ()), ("middles", "middle_holds", (AND, SIDE, NEXT, MIDDLE), (3,)),
    ("middles", "first_middle", (AND, SIDE, NEXT), ()), ("middles", "last_middle", (AND, SIDE, NEXT), ()),
    ("middles", "middle_count", (AND, SIDE, NEXT), ()), ("middles", "fewest_atoms", (AND, SIDE, NEXT), ()),
    ("middles", "some_middle", (AND, SIDE, NEXT), ()), ("middles", "middle_chain", (AND, (SIDE, NEXT, SIDE)), ()),
    ("middles", "chain_holds", (AND, (SIDE, NEXT), (MIDDLE,)), (2,)),
    ("signproofs", "signed_end", (plain_signed(AND), RULE), (1,)), ("signproofs", "signed_paper", (plain_signed(AND), ((0, "p"),)), ()),
    ("signproofs", "signed_holds", (SIGNED, PAIRS, ("proof", ("start", "p"))), (2,)),
    ("signproofs", "joinless_proof", (SIGNED, PAIRS), ()),
    ("wholly", "open_rows", (MAY, "may"), ()), ("wholly", "whole_paper", (AND, "and"), ()),
    ("wholly", "whole_holds", (MAY, "may", ("open", (0,))), (2,)), ("wholly", "letters_paper", (MAY, MAYS), ()),
    ("wholly", "letters_hold", (MAY, (MAYS[1], MAYS[1]), HALVES), (2,)), ("wholly", "lot_paper", (MAY, ("q", MAYS[0][1])), ()),
    ("alike", "exchange_kind", (MAY,), ()), ("alike", "exchange_paper", (AND, TWO, BACK), ()),
    ("alike", "exchange_holds", (EMPTY, "p", "q", ("unlike", (("p", 0), ("q", 1)))), (3,)),
    ("alike", "making_count", (MAY,), ()), ("alike", "nth_making", (MAY, 1), ()), ("alike", "like_sheets", (MAY, MAYS[0]), ()),
    ("alike", "always_paper", (MAY, MAYS), ()), ("alike", "always_holds", (EMPTY, ((), ("p",)), ("made", 0, (("p", 0),))), (2,)),
    ("careful", "careful_end", (AND, TOLD, ("join", "q", ("told", 1), RULE)), (2,)),
    ("careful", "careful_paper", (AND, TOLD, ((), (TWO,))), ()),
    ("careful", "careful_holds", (AND, TOLD, ((), ("q",)), ("proof", ("told", 1))), (3,)),
    ("careful", "said_alone", (AND, TWO), ()), ("careful", "careful_court", (TONK,), ()),
    ("facts", "follow_paper", (AND, TOLD, ((), (TWO,))), ()), ("facts", "follow_holds", (AND, TOLD[:1], ((), ("p",)), AGAINST), (3,)),
    ("facts", "taken_sheets", (SHEET, TOLD[0]), ()), ("facts", "unfolded_sheets", (TOLD, SHEET), ()),
    ("facts", "joined_proof", (AND, TOLD, ((), (TWO,))), ()), ("facts", "reason_lots", (AND, TOLD, (((), (TWO,)), SHEET)), ()),
    ("facts", "break_lots", (AND, TOLD, (((), (TWO,)), SHEET)), ()), ("facts", "peace_lots", (AND, TOLD), ()),
    ("facts", "rule_sheets", (LOGIC, (TWO, BACK)), ()),
    ("fewest", "single_paper", (2, ROWS), ()), ("fewest", "single_lots", (2, ROWS), ()),
    ("fewest", "single_holds", (2, ROWS, (((1, 2), (2, 1)), ((0, 1), (1, 0)))), (2,)),
    ("fewest", "kind_breach", (2, ROWS, "right"), ()), ("fewest", "kind_premises", (2, ROWS, "left"), ()),
    ("fewest", "kind_lots", (2, ROWS, "right"), ()), ("fewest", "premise_count", (2, ROWS), ()),
    ("fewest", "wider_rules", (1, (None, 1)), ()), ("fewest", "least_book", (LOGIC,), ()),
    ("tables", "tables_apart", (MAY, BARE), ()),
    ("tables", "apart_holds", (MAY, BARE, ("may", (1,), (("q",), ("r", ("may", "q"))), 0)), (2,)),
    ("tables", "told_book", (TABLES,), ()), ("tables", "nth_table", (2, 50), ()), ("tables", "table_number", (1, (None, 1)), ()),
    ("follows", "rule_case", (AND, ("and", "left", (((), (2, 2)), ((1,), ())))), ()),
    ("follows", "rule_follows", (AND, ("and", "right", (((), (2,)), ((), (1,))))), ()),
    ("follows", "careful_apart", (AND, Book(AND.makers, ())), ()), ("follows", "plain_apart", (NO,), ()),
    ("made", "writing_paper", (STARS, "not", TOLD_NOT), ()),
    ("made", "writing_holds", (STARS, "half", ("not", "a"), ("making", (("half", (0, 0)),), (0,))), (3,)),
    ("mending", "bad_rows", (TONK,), ()), ("mending", "strike_paper", (TONK, (3, 2)), ()),
    ("mending", "strike_holds", (TONK, (1, 1), ("struck", (0,), ((1, 0, 1),))), (2,)), ("mending", "dealt_lot", (TONK, ("left",)), ()),
    ("mending", "least_lots", (TONK,), ()), ("mending", "cheapest_lots", (TONK, (2, 2)), ()),
    ("mending", "strike_kinds", (TONK, (2, 1)), ()), ("mending", "mixed_lots", (TONK, (0, 1), (1,)), ()),
    ("mending", "narrowed_book", (TONK, ("right",)), ()), ("mending", "narrow_paper", (TONK, (("p",), ("p", ("tonk", "p", "q")))), ()),
    ("signrules", "joins_paper", (JOINED,), ()), ("signrules", "added_rules", (JOINED,), ()), ("signrules", "few_rules", (JOINED,), ()),
    ("signrules", "signed_apart", (JOINED, Signed(3, JOINED.makers, ())), ()),
    ("checker", "record_holds", (RECORD,), (0,)), ("checker", "make_record", ("follow", (AND, TOLD, ((), (TWO,)))), ()),
    ("checker", "wrong_records", ((RECORD, 5, RECORD[:2]),), (0,)),
    ("columns", "shortest_writing", (STARS, "not", ("half", "imp")), ()),
    ("columns", "shortest_holds", (STARS, "not", ("half", "imp"), ("writing", TOLD_NOT)), (3,)),
    ("columns", "fewest_rows", (STARS, "not", ("id", "imp")), ()),
    ("columns", "rows_hold", (STARS, "not", ("id",), (((0,),), ((0,),))), (3,)), ("columns", "least_helpers", (STARS, "not"), ()),
    ("more", "let_paper", (LET, FURTHER), ()), ("more", "let_together", (LET, (FURTHER, ("tonk", "left", (((2,), ()),)))), ()),
    ("more", "new_paper", (LET, FURTHER, (("p",), (("tonk", "p", "q"), "p"))), ()),
    ("more", "new_holds", (LET, FURTHER, (("p",), ("q",)), ("neither", (("p", 1), ("q", 0)))), (3,)),
    ("more", "fresh_sheet", (LET, ("tonk", "left", (((2,), ()),))), ()), ("more", "built_paper", (LET, FURTHER, (1,)), ()),
    ("more", "built_holds", (LET, FURTHER, (), ("bars", (None, 0))), (3,)), ("more", "least_joins", (LET, FURTHER), ()),
    ("unfolded", "unfold_saying", (STARS, "not", TOLD_NOT, ("id", ("not", ("not", "p")))), ()),
    ("unfolded", "unfold_sheet", (STARS, "id", "a", HALVED), ()), ("unfolded", "like_unfolded", (STARS, "id", "a", HALVED), ()),
    ("unfolded", "unfold_paper", (STARS, "id", "a", HALVED), ()),
    ("unfolded", "unfold_holds", (STARS, "id", "a", (("p",), ("q",)), UNFOLDED), (4,)),
)

INTERFACE = {
    "errors": "SayError InvalidText InvalidSaying InvalidSheet InvalidFilling InvalidMakers InvalidRules InvalidBook "
              "InvalidRow InvalidPremises InvalidProof InvalidFacts InvalidLot InvalidWorld InvalidSigned InvalidIndex "
              "Refused InvalidSize NoMaker NoRule NotCalm InvalidCommand",
    "sayings": "saying_depth saying_text saying_rank saying_parts closed_lot saying_letters fill_saying put_beside "
               "lies_within is_start sheet_parts sheet_text fill_sheet read_saying read_sheet",
    "books": "all_rows premise_holds Book rule_awake awake_rows told_truths maker_table rule_saying rule_premises "
             "without_makers put_rules struck_rules rule_text book_text read_book",
    "court": "bad_pairs is_calm need_calm clash_steps steps_hold nonsense_proof even_truths court_paper court_holds",
    "leads": "prime_premises rows_premises lead_steps leads_hold prime_book",
    "proofs": "need_proof proof_end proof_holds joined_sayings proof_height proof_rows row_proof filled_proof cut_short",
    "signs": "Signed plain_signed awake_signed signed_table signed_court odds_hold signed_nonsense",
    "worlds": "is_world next_truths keeps_sheet world_count nth_world kept_count",
    "detours": "without_joins join_out",
    "heaps": "careful_fault heap_holds sheet_kept",
    "judge": "sheet_paper sheet_holds fewest_uses",
    "middles": "possible_rows taken_rows common_atoms middle_holds first_middle last_middle middle_count fewest_atoms "
               "some_middle middle_chain chain_holds",
    "signproofs": "signed_end signed_holds signed_paper joinless_proof",
    "tables": "tables_apart apart_holds told_book nth_table table_number",
    "wholly": "open_rows whole_paper whole_holds letters_paper letters_hold lot_paper",
    "alike": "exchange_kind exchange_paper exchange_holds making_count nth_making like_sheets always_paper always_holds",
    "careful": "careful_end careful_paper careful_holds said_alone careful_court",
    "facts": "follow_paper follow_holds taken_sheets unfolded_sheets joined_proof break_lots reason_lots peace_lots "
             "rule_sheets",
    "fewest": "single_paper single_holds single_lots kind_breach kind_premises kind_lots premise_count wider_rules "
              "least_book",
    "follows": "rule_case rule_follows careful_apart plain_apart",
    "made": "writing_paper writing_holds",
    "mending": "bad_rows strike_paper strike_holds dealt_lot least_lots cheapest_lots strike_kinds mixed_lots narrowed_book "
               "narrow_paper",
    "signrules": "joins_paper added_rules few_rules signed_apart",
    "checker": "record_holds make_record wrong_records",
    "columns": "shortest_writing shortest_holds fewest_rows rows_hold least_helpers",
    "live": "Live",
    "more": "let_paper let_together new_paper new_holds fresh_sheet built_paper built_holds least_joins",
    "unfolded": "unfold_saying unfold_sheet like_unfolded unfold_paper unfold_holds",
    "desk": "Desk",
}
METHODS = {
    Live: {"put_maker": "name places", "drop_maker": "name", "rename_maker": "name new", "put_rule": "rule",
           "strike_rule": "number", "tell_fact": "sheet", "strike_fact": "number", "ask_sheet": "sheet", "turned_sheets": "",
           "undo_deed": "", "redo_deed": ""},
    Desk: {"say": "command"}, Book: {"maker_places": "name", "rules_of": "name side", "__eq__": "other"},
    Signed: {"__eq__": "other"},
}
PARAMETERS = {
    "saying_depth": "saying", "saying_text": "saying", "saying_rank": "saying", "saying_parts": "saying",
    "closed_lot": "sayings", "saying_letters": "saying", "fill_saying": "saying filling", "put_beside": "sheet other",
    "lies_within": "sheet other", "is_start": "sheet", "sheet_parts": "sheet", "sheet_text": "sheet",
    "fill_sheet": "sheet filling", "read_saying": "text", "read_sheet": "text", "all_rows": "places",
    "premise_holds": "premise row", "Book": "makers rules", "rule_awake": "book rule row", "awake_rows": "book number",
    "told_truths": "book name row", "maker_table": "book name", "rule_saying": "book number sayings",
    "rule_premises": "book number sayings sheet", "without_makers": "book names", "put_rules": "book rules",
    "struck_rules": "book numbers", "rule_text": "book rule", "book_text": "book", "read_book": "text",
    "bad_pairs": "book", "is_calm": "book", "need_calm": "book", "clash_steps": "sheets", "steps_hold": "sheets value",
    "nonsense_proof": "book one other", "even_truths": "book", "court_paper": "book", "court_holds": "book value",
    "prime_premises": "places premises", "rows_premises": "places rows", "lead_steps": "places premises goal",
    "leads_hold": "places premises goal value", "prime_book": "book", "need_proof": "book value facts",
    "proof_end": "book proof facts", "proof_holds": "book sheet value facts", "joined_sayings": "book proof",
    "proof_height": "book proof", "proof_rows": "book proof", "row_proof": "book rows",
    "filled_proof": "book proof filling", "cut_short": "book proof", "Signed": "count makers rules",
    "plain_signed": "book", "awake_signed": "signed name row", "signed_table": "signed name", "signed_court": "signed",
    "odds_hold": "signed value", "signed_nonsense": "signed", "is_world": "book value",
    "next_truths": "book world saying", "keeps_sheet": "world sheet", "world_count": "book sayings",
    "nth_world": "book sayings index", "kept_count": "book sayings", "without_joins": "book proof",
    "join_out": "book proof", "careful_fault": "book", "heap_holds": "book sayings value",
    "sheet_kept": "book sayings heap sheet", "sheet_paper": "book sheet", "sheet_holds": "book sheet value",
    "fewest_uses": "book sheet", "possible_rows": "book atoms", "taken_rows": "book atoms sheet",
    "common_atoms": "book first second", "middle_holds": "book first second value", "first_middle": "book first second",
    "last_middle": "book first second", "middle_count": "book first second", "fewest_atoms": "book first second",
    "some_middle": "book first second", "middle_chain": "book sheets", "chain_holds": "book sheets value",
    "signed_end": "signed proof", "signed_holds": "signed sheet value", "signed_paper": "signed sheet",
    "joinless_proof": "signed sheet", "tables_apart": "one other", "apart_holds": "one other value",
    "told_book": "tables", "nth_table": "places number", "table_number": "places table",
    "open_rows": "book maker", "whole_paper": "book maker", "whole_holds": "book maker value",
    "letters_paper": "book sheet", "letters_hold": "book sheet value", "lot_paper": "book sayings",
    "exchange_kind": "book", "exchange_paper": "book one other", "exchange_holds": "book one other value",
    "making_count": "book", "nth_making": "book number", "like_sheets": "book sayings", "always_paper": "book sheet",
    "always_holds": "book sheet value", "careful_end": "book facts value", "careful_paper": "book facts sheet",
    "careful_holds": "book facts sheet value", "said_alone": "book saying", "careful_court": "book",
    "follow_paper": "book facts sheet", "follow_holds": "book facts sheet value", "taken_sheets": "sheet fact",
    "unfolded_sheets": "facts sheet", "joined_proof": "book facts sheet", "break_lots": "book facts goals",
    "reason_lots": "book facts goals", "peace_lots": "book facts", "rule_sheets": "book sayings",
    "single_paper": "places rows", "single_holds": "places rows value", "single_lots": "places rows",
    "kind_breach": "places rows kind", "kind_premises": "places rows kind", "kind_lots": "places rows kind",
    "premise_count": "places rows", "wider_rules": "places table", "least_book": "book",
    "rule_case": "book rule", "rule_follows": "book rule", "careful_apart": "one other", "plain_apart": "book",
    "writing_paper": "book name writing", "writing_holds": "book name writing value", "bad_rows": "book",
    "strike_paper": "book prices", "strike_holds": "book prices value", "dealt_lot": "book sides", "least_lots": "book",
    "cheapest_lots": "book prices", "strike_kinds": "book prices", "mixed_lots": "book lot other",
    "narrowed_book": "book sides", "narrow_paper": "book sheet", "joins_paper": "signed", "added_rules": "signed",
    "few_rules": "signed", "signed_apart": "signed other", "record_holds": "value", "make_record": "word question",
    "wrong_records": "values", "shortest_writing": "book name helpers", "shortest_holds": "book name helpers value",
    "fewest_rows": "book name helpers", "rows_hold": "book name helpers value", "least_helpers": "book name",
    "let_paper": "book rule", "let_together": "book rules", "new_paper": "book rule sheet",
    "new_holds": "book rule sheet value", "fresh_sheet": "book rule", "built_paper": "book rule places",
    "built_holds": "book rule places value", "least_joins": "book rule", "unfold_saying": "book name writing saying",
    "unfold_sheet": "book name writing sheet", "like_unfolded": "book name writing sheet",
    "unfold_paper": "book name writing sheet", "unfold_holds": "book name writing sheet value", "Live": "", "Desk": "",
}


def called(module, name):
    """The function or class of the interface."""
    return getattr(importlib.import_module("saymakers." + module), name)


class BasicsTest(unittest.TestCase):
    def variants(self, call, args, papers):
        """The call's results, its arguments handed over in all ways."""
        names = list(inspect.signature(call).parameters)[:len(args)]
        for turned in (args, tuple(arg if at in papers else listed(arg) for at, arg in enumerate(args))):
            before = copy.deepcopy(turned)
            yield call(*turned)
            yield call(**dict(zip(names, turned)))
            yield call(*turned[:1], **dict(list(zip(names, turned))[1:]))
            self.assertTrue(is_same(turned, before) or turned == before)

    def test_every_name_is_called_here(self):
        for module, names in INTERFACE.items():
            if module not in ("errors", "live", "desk"):
                self.assertEqual({name for where, name, args, papers in CALLS if where == module}, set(names.split()))

    def test_equal_calls_give_equal_results(self):
        first = [list(self.variants(called(module, name), args, papers)) for module, name, args, papers in CALLS]
        again = [list(self.variants(called(module, name), args, papers)) for module, name, args, papers in CALLS[::-1]]
        for results, more, (module, name, args, papers) in zip(first, again[::-1], CALLS):
            for one, other in itertools.pairwise(results + more):
                self.assertTrue(is_same(one, other), name)

    def test_sequences_are_tuples_also_within(self):
        for module, name, args, papers in CALLS:
            result = called(module, name)(*args)
            if isinstance(result, Book):
                self.assertTrue(is_all_tuples((result.makers, result.rules)), name)
            elif isinstance(result, Signed):
                self.assertTrue(is_all_tuples((result.makers, result.rules)), name)
            else:
                self.assertTrue(is_all_tuples(result), name)
                self.assertTrue(isinstance(result, (tuple, str, bool, int, type(None))), name)

    def test_later_changes_have_no_effect(self):
        makers, rules = listed(LOGIC.makers), listed(LOGIC.rules)
        book = Book(makers, rules)
        places, sign_rules = [["m", 1]], listed(SIGN_RULES)
        signed = Signed(3, places, sign_rules)
        kept = (signed.makers, signed.rules)
        makers[0][0] = "odd"
        rules[0][2][0][0].append(9)
        rules.clear()
        places[0][1] = 7
        sign_rules[0][1].append(2)
        sign_rules[0][2][0][0][0] = 5
        sign_rules.pop()
        self.assertEqual((book.makers, book.rules), (LOGIC.makers, LOGIC.rules))
        self.assertEqual((signed.makers, signed.rules), kept)

    def test_lists_changed_behind_a_call_change_nothing(self):
        def spoil(value):
            """Changes all lists within the value."""
            for each in value:
                if isinstance(each, list):
                    spoil(each)
            if isinstance(value, list):
                value.append("odd")
                value.reverse()
        for module, name, args, papers in CALLS:
            turned = [arg if at in papers else listed(arg) for at, arg in enumerate(args)]
            result = called(module, name)(*turned)
            kept = copy.deepcopy(result)
            spoil(turned)
            self.assertTrue(is_same(result, kept) or result == kept, name)
            self.assertTrue(is_same(result, called(module, name)(*args)) or result == kept, name)

    def test_objects_are_not_iterable(self):
        for thing in (AND, EMPTY, SIGNED, Live(), Desk()):
            for call in (iter, list, tuple, len, sorted):
                with self.assertRaises(TypeError):
                    call(thing)
            with self.assertRaises(TypeError):
                0 in thing

    def test_whether_is_a_bool(self):
        for module, name, args, papers in CALLS:
            if name.startswith(("is_", "keeps_", "lies_")) or name.endswith(("_hold", "_holds", "_awake", "_kept")):
                self.assertIn(called(module, name)(*args), (True, False))
                self.assertIs(type(called(module, name)(*args)), bool, name)

    def test_names_are_defined_where_they_are_listed(self):
        for module, names in INTERFACE.items():
            for name in names.split():
                self.assertEqual(called(module, name).__module__, "saymakers." + module)
        for thing, methods in METHODS.items():
            for method, parameters in methods.items():
                self.assertIn(method, vars(thing))
                self.assertEqual(list(inspect.signature(vars(thing)[method]).parameters), ["self"] + parameters.split())

    def test_parameters_and_defaults(self):
        for module, name, args, papers in CALLS:
            self.assertIn(name, INTERFACE[module].split())
            parameters = inspect.signature(called(module, name)).parameters
            self.assertEqual(list(parameters), PARAMETERS[name].split(), name)
            for parameter in parameters.values():
                right = () if parameter.name == "facts" and module == "proofs" else inspect.Parameter.empty
                self.assertEqual(parameter.default, right)


if __name__ == "__main__":
    unittest.main()
