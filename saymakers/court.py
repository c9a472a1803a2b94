"""The court: whether the rules of a book clash, and what shows it."""

from saymakers.books import need_book, truths_told
from saymakers.errors import InvalidSaying, NotCalm, Refused
from saymakers.forms import is_too_great, ordered_lot
from saymakers.kinds import MOST_PLACES, is_number, row_of_places
from saymakers.needs import need_own_saying
from saymakers.premises import all_hold, need_premises, waking_rows
from saymakers.steps import brought, found_steps

_EMPTY = ((), ())


def _facing_pairs(book):
    """All (right, left) of numbers of a right and a left rule of one maker, ascending."""
    rules = list(enumerate(need_book(book).rules))
    lefts = [(number, rule[0]) for number, rule in rules if rule[1] == "left"]
    rights = [(number, rule[0]) for number, rule in rules if rule[1] == "right"]
    return [(right, left) for right, name in rights for left, other in lefts if name == other]


def _pair_premises(book, right, left):
    """The right rule's premises, then the left one's."""
    return book.rules[right][2] + book.rules[left][2]


def bad_pairs(book):
    """(right, left, rows) for each right and left rule of one maker that don't clash, ascending."""
    pairs = []
    for right, left in _facing_pairs(book):
        rows = waking_rows(_pair_premises(book, right, left), book.maker_places(book.rules[right][0]))
        if rows:
            pairs.append((right, left, rows))
    return tuple(pairs)


def is_calm(book):
    """Whether all right and left rules of one maker clash."""
    return not bad_pairs(book)


def need_calm(book):
    """The book, if it is calm."""
    pairs = bad_pairs(book)
    if pairs:
        right, left, rows = pairs[0]
        raise NotCalm(right, left, rows[0])
    return book


def clash_steps(sheets):
    """Steps from the place sheets to the empty one, or None if some row has them all hold."""
    return found_steps(need_premises(sheets, MOST_PLACES), _EMPTY)


def steps_hold(sheets, value):
    """Whether the value is a row of steps in which the empty place sheet has come."""
    return _is_clash(need_premises(sheets, MOST_PLACES), value)


def _is_clash(told, value):
    """Whether the value is a row of steps in which the empty place sheet has come."""
    made = brought(told, value)
    return made is not None and _EMPTY in made


def _rule_in_row(book, number, row, sayings):
    """The rule with starts above it, each for a place by which a premise holds in the row."""
    starts = []
    for left, right in book.rules[number][2]:
        places = [place for place in left if row[place - 1] == 0] + [place for place in right if row[place - 1] == 1]
        starts.append(("start", sayings[places[0] - 1]))
    return ("rule", number, sayings, tuple(starts))


def nonsense_proof(book, one, other):
    """A proof of `one | other` by the first bad pair in its first row."""
    need_book(book)
    formed = [need_own_saying(book, one, 0), need_own_saying(book, other, 1)]
    pairs = bad_pairs(book)
    if not pairs:
        raise Refused(-1)
    right, left, rows = pairs[0]
    sayings = tuple([formed[0] if truth == 1 else formed[1] for truth in rows[0]])
    whole = (book.rules[right][0],) + sayings
    if is_too_great(whole):
        raise InvalidSaying(-1)
    join = ("join", whole, _rule_in_row(book, right, rows[0], sayings), _rule_in_row(book, left, rows[0], sayings))
    return ("thin", (ordered_lot(formed[:1]), ordered_lot(formed[1:])), join)


def even_truths(book):
    """The truths that all sayings may have at once, ascending."""
    truths = []
    for truth in (0, 1):
        told = [truths_told(book, name, (truth,) * places) for name, places in need_book(book).makers]
        if not any([1 - truth in each for each in told]):
            truths.append(truth)
    return tuple(truths)


def court_paper(book):
    """Steps for each right and left rule of one maker, or the first pair that does not clash."""
    pairs = bad_pairs(book)
    if pairs:
        right, left, rows = pairs[0]
        return ("nonsense", right, left, rows[0])
    facing = _facing_pairs(book)
    return ("calm", tuple([
        (right, left, found_steps(_pair_premises(book, right, left), _EMPTY)) for right, left in facing]))


def court_holds(book, value):
    """Whether the value is such a paper, of any bad pair, row and steps."""
    need_book(book)
    if not isinstance(value, tuple) or not value:
        return False
    if value[0] == "calm":
        return len(value) == 2 and _are_clashes(book, value[1])
    return value[0] == "nonsense" and len(value) == 4 and _is_bad(book, value[1], value[2], value[3])


def _are_clashes(book, told):
    """Whether the value tells steps for just the right and left rules of one maker."""
    facing = _facing_pairs(book)
    if not isinstance(told, tuple) or len(told) != len(facing):
        return False
    for (right, left), triple in zip(facing, told):
        if not isinstance(triple, tuple) or len(triple) != 3:
            return False
        if not is_number(triple[0]) or not is_number(triple[1]) or triple[:2] != (right, left):
            return False
        if not _is_clash(_pair_premises(book, right, left), triple[2]):
            return False
    return True


def _is_bad(book, right, left, row):
    """Whether these values are a right and a left rule of one maker and a row that wakes both."""
    if not is_number(right) or not is_number(left) or (right, left) not in _facing_pairs(book):
        return False
    truths = row_of_places(row, book.maker_places(book.rules[right][0]), lists=False)
    return truths is not None and all_hold(_pair_premises(book, right, left), truths)
