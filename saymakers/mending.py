"""Mending books that are not calm: rules to be struck, or to be narrowed by further premises."""

from saymakers.books import Book, need_book, struck_rules, truths_told
from saymakers.boxes import barring_premise
from saymakers.closed import ClosedLot
from saymakers.court import bad_pairs, is_calm
from saymakers.errors import InvalidLot, InvalidSize
from saymakers.kinds import SIDES, is_number, is_number_below, is_sequence, least_of, lot_of, rows_of
from saymakers.needs import need_own_sheet
from saymakers.premises import all_hold
from saymakers.prover import proof_or_world
from saymakers.shares import dealt_shares

_LEAST_PRICE = 1
_MOST_PRICE = 99
_MOST_ROWS = 8
_MOST_ROWS_TO_NARROW = 4
_MOST_SAYINGS = 10


def bad_rows(book):
    """(maker, row) for each row that wakes both a right and a left rule of the maker, ascending."""
    return tuple([(name, row) for name, places in need_book(book).makers for row in rows_of(places)
                  if len(truths_told(book, name, row)) > 1])


def _need_prices(book, prices):
    """The prices, one for each rule."""
    if not is_sequence(prices) or len(prices) != len(book.rules):
        raise InvalidSize("prices")
    if not all([is_number(price) and _LEAST_PRICE <= price <= _MOST_PRICE for price in prices]):
        raise InvalidSize("prices")
    return tuple(prices)


def _price_of(lot, prices):
    """What the rules of the lot cost together."""
    return sum([prices[number] for number in lot])


def strike_paper(book, prices):
    """("struck", lot, shares): a cheapest lot that mends, and shares of bad pairs that show it."""
    told = _need_prices(need_book(book), prices)
    lot, shares = dealt_shares([(right, left) for right, left, rows in bad_pairs(book)], told)
    return ("struck", lot, shares)


def strike_holds(book, prices, value):
    """Whether the value is such a paper."""
    told = _need_prices(need_book(book), prices)
    if not isinstance(value, tuple) or len(value) != 3 or value[0] != "struck":
        return False
    if not isinstance(value[1], tuple) or not _mends(book, value[1]):
        return False
    return _are_shares(book, told, value[2]) and _price_of(value[1], told) == sum([share[2] for share in value[2]])


def _mends(book, lot):
    """Whether a sequence has ascending numbers of rules without which the book is calm."""
    if not all([is_number_below(number, len(book.rules)) for number in lot]) or tuple(lot) != lot_of(lot):
        return False
    return is_calm(struck_rules(book, lot))


def _are_shares(book, prices, value):
    """Whether the value has ascending shares of unlike bad pairs, none of a rule's more than its price."""
    if not isinstance(value, tuple):
        return False
    pairs = [(right, left) for right, left, rows in bad_pairs(book)]
    dealt = [0 for _ in prices]
    before = ()
    for share in value:
        if not isinstance(share, tuple) or len(share) != 3 or not all([is_number(each) for each in share]):
            return False
        if share[:2] not in pairs or share[:2] <= before or share[2] < 1:
            return False
        before = share[:2]
        for number in before:
            dealt[number] += share[2]
    return all([many <= price for many, price in zip(dealt, prices)])


def _need_dealing(book, sides):
    """((maker, row), side) for each bad row."""
    rows = bad_rows(need_book(book))
    if not is_sequence(sides) or len(sides) != len(rows) or not all([side in SIDES for side in sides]):
        raise InvalidSize("sides")
    return list(zip(rows, sides))


def _losing_rows(rule, dealing):
    """The rows, dealt to the other side, in which the rule is awake."""
    return [row for (name, row), side in dealing if name == rule[0] and side != rule[1] and all_hold(rule[2], row)]


def _dealt(book, dealing):
    """The numbers of all rules that some row of the dealing takes from."""
    return tuple([number for number, rule in enumerate(book.rules) if _losing_rows(rule, dealing)])


def dealt_lot(book, sides):
    """The lot of rules awake in bad rows that are dealt to the other side."""
    return _dealt(book, _need_dealing(book, sides))


def _need_few_rows(book, most):
    """The book's bad rows, if they are few."""
    rows = bad_rows(book)
    if len(rows) > most:
        raise InvalidSize("rows")
    return rows


def _dealings(rows):
    """All ways to deal the rows to the sides, ascending."""
    return [list(zip(rows, [SIDES[truth] for truth in truths])) for truths in rows_of(len(rows))]


def _least_lots(book):
    """All lots that mend while none of their rules can be left out, ascending."""
    return least_of([_dealt(book, dealing) for dealing in _dealings(_need_few_rows(book, _MOST_ROWS))])


def least_lots(book):
    """All lots that mend while none of their rules can be left out, ascending."""
    return _least_lots(need_book(book))


def cheapest_lots(book, prices):
    """The lots of the least price that mend, ascending."""
    told = _need_prices(need_book(book), prices)
    lots = _least_lots(book)
    least = min([_price_of(lot, told) for lot in lots])
    return tuple([lot for lot in lots if _price_of(lot, told) == least])


def strike_kinds(book, prices):
    """For each rule whether it is in all, some or none of the cheapest lots."""
    lots = cheapest_lots(book, prices)
    kinds = []
    for number in range(len(book.rules)):
        many = len([lot for lot in lots if number in lot])
        kinds.append("none" if many == 0 else "all" if many == len(lots) else "some")
    return tuple(kinds)


def mixed_lots(book, lot, other):
    """(right rules of both lots and left ones of either, right rules of either and left ones of both)."""
    need_book(book)
    for at, told in enumerate((lot, other)):
        if not is_sequence(told) or not _mends(book, told):
            raise InvalidLot(at)
    either = lot_of(list(lot) + list(other))
    both = [number for number in either if number in lot and number in other]
    mixed = [[number for number in either if number in both or book.rules[number][1] == side] for side in SIDES]
    return tuple(mixed[0]), tuple(mixed[1])


def _narrowed(book, dealing):
    """The book whose rules get a premise for each row that is dealt to the other side."""
    rules = []
    for rule in book.rules:
        more = [barring_premise(row) for row in _losing_rows(rule, dealing)]
        rules.append((rule[0], rule[1], rule[2] + tuple(more)))
    return Book(book.makers, rules)


def narrowed_book(book, sides):
    """The book in which each bad row is left to one side."""
    return _narrowed(book, _need_dealing(book, sides))


def narrow_paper(book, sheet):
    """Proofs of the sheet in all these books, or the first one that has none, and a world of it."""
    whole = need_own_sheet(need_book(book), sheet)
    rows = _need_few_rows(book, _MOST_ROWS_TO_NARROW)
    if len(ClosedLot(book, whole[0] + whole[1]).sayings) > _MOST_SAYINGS:
        raise InvalidSize("sayings")
    proofs = []
    for dealing in _dealings(rows):
        lot = ClosedLot(_narrowed(book, dealing), whole[0] + whole[1])
        proof, world = proof_or_world(lot, whole)
        if proof is None:
            return ("some", tuple([side for row, side in dealing]), world)
        proofs.append(proof)
    return ("all", tuple(proofs))
