"""One rule more: whether it may be put in, what it says that is new, whether it is built of the others."""

from saymakers.books import need_book, put_rules
from saymakers.builder import Builder, is_refuted, sheet_of_rule
from saymakers.closed import ClosedLot
from saymakers.court import need_calm
from saymakers.errors import InvalidLot, InvalidRules, Refused
from saymakers.forms import ordered_lot, parts_of
from saymakers.kinds import PLACE_LETTERS, is_number, is_number_below, is_sequence, least_of
from saymakers.needs import need_own_sheet
from saymakers.premises import all_hold, waking_rows
from saymakers.proofreader import listed_parts
from saymakers.proofs import proof_holds
from saymakers.prover import proof_or_world
from saymakers.rules import formed_rule
from saymakers.wholly import table_gaps
from saymakers.worlds import breaks_sheet

_TRUE_LETTER = "q"
_FALSE_LETTER = "r"


def _need_further(book, rule, at=0):
    """The rule in order, known to be for a maker of the book."""
    found = formed_rule(rule, dict(book.makers))
    if found is None:
        raise InvalidRules(at)
    return found


def _common_rows(book, one, other):
    """The rows in which both rules are awake, if they are of one maker and of unlike sides."""
    if one[0] != other[0] or one[1] == other[1]:
        return ()
    return waking_rows(one[2] + other[2], book.maker_places(one[0]))


def _first_bar(book, rule):
    """(number, row) of the first rule that bars this one, or None."""
    for number, other in enumerate(book.rules):
        rows = _common_rows(book, rule, other)
        if rows:
            return number, rows[0]
    return None


def let_paper(book, rule):
    """Whether the book stays calm with the rule, or the first rule that bars it and the first row of both."""
    found = _need_further(need_book(book), rule)
    bar = _first_bar(need_calm(book), found)
    return ("let",) if bar is None else ("bars",) + bar


def let_together(book, rules):
    """Nothing if the book stays calm with all the rules; else the first that bars, or the least two."""
    need_book(book)
    if not is_sequence(rules):
        raise InvalidRules(-1)
    found = [_need_further(book, rule, at) for at, rule in enumerate(rules)]
    need_calm(book)
    for at, rule in enumerate(found):
        if _first_bar(book, rule) is not None:
            return (at,)
    for at, rule in enumerate(found):
        for later in range(at + 1, len(found)):
            if _common_rows(book, rule, found[later]):
                return at, later
    return ()


def _need_let(book, rule):
    """The calm book with the rule, too."""
    bar = _first_bar(need_calm(book), rule)
    if bar is not None:
        raise Refused(bar[0])
    return put_rules(book, (rule,))


def new_paper(book, rule, sheet):
    """Whether the sheet has a proof in the book, in the greater one alone, or in neither."""
    found = _need_further(need_book(book), rule)
    whole = need_own_sheet(book, sheet)
    greater = _need_let(book, found)
    proof, world = proof_or_world(ClosedLot(book, whole[0] + whole[1]), whole)
    if world is None:
        return ("elder", proof)
    more_proof, more_world = proof_or_world(ClosedLot(greater, whole[0] + whole[1]), whole)
    return ("new", more_proof, world) if more_world is None else ("neither", more_world)


def _is_part_world(book, sheet, value):
    """Whether the value is a world of just the sheet's parts that does not keep it."""
    return breaks_sheet(book, sheet, value) and [saying for saying, truth in value] == list(
        parts_of(sheet[0] + sheet[1]))


def new_holds(book, rule, sheet, value):
    """Whether the value is such a tuple, proofs with joins or without."""
    found = _need_further(need_book(book), rule)
    whole = need_own_sheet(book, sheet)
    greater = _need_let(book, found)
    if not isinstance(value, tuple) or not value:
        return False
    if value[0] == "elder":
        return len(value) == 2 and proof_holds(book, whole, value[1])
    if value[0] == "new":
        return len(value) == 3 and proof_holds(greater, whole, value[1]) and _is_part_world(book, whole, value[2])
    return value[0] == "neither" and len(value) == 2 and _is_part_world(greater, whole, value[1])


def fresh_sheet(book, rule):
    """A sheet that has a proof with the rule alone: by the first open row in which it is awake; else None."""
    found = _need_further(need_book(book), rule)
    _need_let(book, found)
    rows = [row for row in table_gaps(book, found[0]) if all_hold(found[2], row)]
    if not rows:
        return None
    sayings = tuple([_TRUE_LETTER if truth else _FALSE_LETTER for truth in rows[0]])
    left = [saying for saying in sayings if saying == _TRUE_LETTER]
    right = [saying for saying in sayings if saying == _FALSE_LETTER]
    own = left if found[1] == "left" else right
    own.append((found[0],) + sayings)
    return ordered_lot(left), ordered_lot(right)


def _need_lot(book, rule, places):
    """Unlike places of the rule's maker."""
    if not is_sequence(places):
        raise InvalidLot(-1)
    found = []
    for at, place in enumerate(places):
        if not is_number(place) or not 1 <= place <= book.maker_places(rule[0]) or place in found:
            raise InvalidLot(at)
        found.append(place)
    return found


def built_paper(book, rule, places):
    """A proof of the rule by the others with joins on these places' letters alone, or a row that bars it."""
    found = _need_further(need_book(book), rule)
    builder = Builder(book, found, _need_lot(book, found, places))
    need_calm(book)
    proof = builder.found_proof()
    return ("bars", builder.stuck) if proof is None else ("built", proof)


def built_holds(book, rule, places, value):
    """Whether the value is such a pair, of any proof or row."""
    found = _need_further(need_book(book), rule)
    lot = _need_lot(book, found, places)
    need_calm(book)
    if not isinstance(value, tuple) or len(value) != 2:
        return False
    if value[0] == "built":
        return _is_building(book, found, lot, value[1])
    return value[0] == "bars" and _is_barring(book, found, lot, value[1])


def _is_building(book, rule, places, value):
    """Whether the value is a proof of the rule with joins on these places' letters alone."""
    facts, sheet = sheet_of_rule(book, rule)
    letters = [PLACE_LETTERS[place - 1] for place in places]
    if not proof_holds(book, sheet, value, facts):
        return False
    return all([part[0] != "join" or part[1] in letters for part in listed_parts(value)])


def _is_barring(book, rule, places, row):
    """Whether the value is a row, these places set, that bars each rule of the maker and side but not this one."""
    if not isinstance(row, tuple) or len(row) != book.maker_places(rule[0]):
        return False
    if not all([truth is None or is_number_below(truth, 2) for truth in row]):
        return False
    if any([row[place - 1] is None for place in places]) or any([is_refuted(premise, row) for premise in rule[2]]):
        return False
    others = [other[2] for other in book.rules if other[:2] == rule[:2]]
    return all([any([is_refuted(premise, row) for premise in premises]) for premises in others])


def least_joins(book, rule):
    """All least lots of places over which the rule is built, ascending."""
    found = _need_further(need_book(book), rule)
    need_calm(book)
    lots = [()]
    for place in range(1, book.maker_places(found[0]) + 1):
        lots = lots + [lot + (place,) for lot in lots]
    return least_of([lot for lot in lots if Builder(book, found, lot).found_proof() is not None])
