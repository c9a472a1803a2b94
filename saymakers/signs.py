"""Books of many signs, and whether they are calm."""

from itertools import combinations

from saymakers.books import need_book
from saymakers.errors import InvalidRow, InvalidSigned, NoMaker, Refused
from saymakers.kinds import is_name, is_number, is_number_below, is_sequence, lot_of, row_of_places, rows_of
from saymakers.rules import makers_in_order, wrong_maker

_FEWEST_SIGNS = 2
_MOST_SIGNS = 4
_SIGN_LETTERS = "abcd"


class Signed:
    """Makers and rules for so many signs, both ascending; a rule's number is its place."""

    def __init__(self, count, makers, rules):
        if not is_number(count) or not _FEWEST_SIGNS <= count <= _MOST_SIGNS:
            raise InvalidSigned(0)
        if wrong_maker(makers) is not None:
            raise InvalidSigned(1)
        self.count = count
        self.makers = makers_in_order(makers)
        if not is_sequence(rules):
            raise InvalidSigned(2)
        places = dict(self.makers)
        formed = [_formed_rule(rule, count, places) for rule in rules]
        if None in formed:
            raise InvalidSigned(2)
        self.rules = lot_of(formed)

    def __eq__(self, other):
        return (isinstance(other, Signed) and self.count == other.count and self.makers == other.makers
                and self.rules == other.rules)


def _formed_rule(value, count, places):
    """The value as a rule (maker, lot, premises) in order, or None."""
    if not is_sequence(value) or len(value) != 3:
        return None
    name, lot, premises = value
    if not is_name(name) or name not in places or not is_sequence(lot) or not is_sequence(premises):
        return None
    if not all([is_number_below(sign, count) for sign in lot]) or len(lot_of(lot)) not in range(1, count):
        return None
    formed = [_formed_premise(premise, count, places[name]) for premise in premises]
    return None if None in formed else (name, lot_of(lot), lot_of(formed))


def _formed_premise(value, count, places):
    """The value as a lot of pairs (sign, place), or None."""
    if not is_sequence(value):
        return None
    for pair in value:
        if not is_sequence(pair) or len(pair) != 2 or not is_number_below(pair[0], count):
            return None
        if not is_number(pair[1]) or not 1 <= pair[1] <= places:
            return None
    return lot_of([(sign, place) for sign, place in value])


def need_signed(signed):
    """The book of signs itself."""
    if not isinstance(signed, Signed):
        raise InvalidSigned(-1)
    return signed


def places_of(signed, name):
    """How many places the maker of this name has."""
    for own, places in signed.makers:
        if own == name:
            return places
    raise NoMaker(name)


def plain_signed(book):
    """The book with signs 0 and 1 in place of left and right."""
    rules = []
    for name, side, premises in need_book(book).rules:
        pairs = [[(0, place) for place in left] + [(1, place) for place in right] for left, right in premises]
        rules.append((name, (1,) if side == "right" else (0,), pairs))
    return Signed(2, book.makers, rules)


def _awake(signed, name, row):
    """The numbers of the maker's rules that are awake in the row, ascending."""
    numbers = []
    for number, (own, _, premises) in enumerate(signed.rules):
        if own == name and all([_sign_place(premise, row) for premise in premises]):
            numbers.append(number)
    return tuple(numbers)


def _sign_place(premise, row):
    """The first place that has its sign of the premise in the row; 0 if the premise does not hold."""
    places = [place for sign, place in premise if row[place - 1] == sign]
    return places[0] if places else 0


def _common_signs(signed, numbers):
    """The signs that the lots of all these rules have in common."""
    lots = [signed.rules[number][1] for number in numbers]
    return tuple([sign for sign in range(signed.count) if all([sign in lot for lot in lots])])


def awake_signed(signed, name, row):
    """The numbers of the maker's rules that are awake in the row, ascending."""
    signs = row_of_places(row, places_of(need_signed(signed), name), signed.count)
    if signs is None:
        raise InvalidRow(-1)
    return _awake(signed, name, signs)


def signed_table(signed, name):
    """For each row, ascending, the signs that the rules awake in it have in common."""
    places = places_of(need_signed(signed), name)
    return tuple([_common_signs(signed, _awake(signed, name, row)) for row in rows_of(places, signed.count)])


def _first_odds(signed):
    """The first maker and row at odds with the first fewest rules that are, or None."""
    for name, places in signed.makers:
        for row in rows_of(places, signed.count):
            awake = _awake(signed, name, row)
            if not _common_signs(signed, awake):
                return name, row, _fewest_at_odds(signed, awake)
    return None


def _fewest_at_odds(signed, awake):
    """The first lot of the fewest of these rules without a common sign."""
    rules = list(awake)
    for many in range(len(rules) + 1):
        for numbers in combinations(rules, many):
            if not _common_signs(signed, numbers):
                return numbers
    return awake


def signed_court(signed):
    """Whether no row is at odds, or the first that is."""
    odds = _first_odds(need_signed(signed))
    return ("calm",) if odds is None else ("odds",) + odds


def odds_hold(signed, value):
    """Whether the value is such a paper, of any row at odds and rules that are."""
    odds = _first_odds(need_signed(signed))
    if not isinstance(value, tuple) or not value:
        return False
    if value[0] == "calm":
        return len(value) == 1 and odds is None
    return value[0] == "odds" and len(value) == 4 and _are_odds(signed, value[1], value[2], value[3])


def _are_odds(signed, name, row, numbers):
    """Whether these values are a maker, a row and a lot of rules that are at odds in it."""
    places = dict(signed.makers)
    if not is_name(name) or name not in places:
        return False
    signs = row_of_places(row, places[name], signed.count, lists=False)
    if signs is None or not isinstance(numbers, tuple) or not all([is_number(number) for number in numbers]):
        return False
    awake = _awake(signed, name, signs)
    if numbers != lot_of(numbers) or not all([number in awake for number in numbers]):
        return False
    return not _common_signs(signed, numbers)


def row_letters(row):
    """The letters that stand for the signs of a row."""
    return tuple([_SIGN_LETTERS[sign] for sign in row])


def row_refusal(count, row):
    """For each sign in the row all pairs of its letter with other signs."""
    return tuple([(sign, _SIGN_LETTERS[own]) for own in lot_of(row) for sign in range(count) if sign != own])


def signed_nonsense(signed):
    """(the refusal of the row that the court tells, a proof of it)."""
    odds = _first_odds(need_signed(signed))
    if odds is None:
        raise Refused(-1)
    name, row, numbers = odds
    letters = row_letters(row)
    refusal = row_refusal(signed.count, row)
    proof = _rule_in_row(signed, numbers[0], row, letters)
    for number in numbers[1:]:
        proof = ("join", (name,) + letters, proof, _rule_in_row(signed, number, row, letters))
    return refusal, ("thin", refusal, proof)


def _rule_in_row(signed, number, row, letters):
    """The rule with starts above it, each of the letter by which a premise holds in the row."""
    places = [_sign_place(premise, row) for premise in signed.rules[number][2]]
    return ("rule", number, letters, tuple([("start", letters[place - 1]) for place in places]))
