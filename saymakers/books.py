"""Books of makers and rules, and what they tell by rows."""

from saymakers.errors import (
    InvalidBook, InvalidMakers, InvalidPremises, InvalidRow, InvalidRules, InvalidSaying, InvalidSize, NoMaker, NoRule,
    Refused)
from saymakers.forms import beside, is_too_great, ordered_lot
from saymakers.kinds import SIDES, formed_row, is_number_below, is_sequence, lot_of, row_of_places, rows_of
from saymakers.needs import need_own_sayings, need_own_sheet
from saymakers.premises import all_hold, formed_premise, holds_in, need_places, waking_rows
from saymakers.rules import formed_rule, makers_in_order, read_lines, rule_line, wrong_maker

_MOST_RULES = 60


def all_rows(places):
    """All rows of truths for so many places, ascending."""
    return rows_of(need_places(places))


def premise_holds(premise, row):
    """Whether some left place of the premise is 0 in the row, or some right one 1."""
    truths = formed_row(row)
    if truths is None:
        raise InvalidRow(-1)
    found = formed_premise(premise, len(truths))
    if found is None:
        raise InvalidPremises(-1)
    return holds_in(found, truths)


class Book:
    """Makers and rules, both ascending; a rule's number is its place."""

    def __init__(self, makers, rules):
        wrong = wrong_maker(makers)
        if wrong is not None:
            raise InvalidMakers(wrong)
        self.makers = makers_in_order(makers)
        if not is_sequence(rules):
            raise InvalidRules(-1)
        places = dict(self.makers)
        formed = []
        for at, value in enumerate(rules):
            rule = formed_rule(value, places)
            if rule is None or at == _MOST_RULES:
                raise InvalidRules(at)
            formed.append(rule)
        self.rules = lot_of(formed)

    def __eq__(self, other):
        return isinstance(other, Book) and self.makers == other.makers and self.rules == other.rules

    def maker_places(self, name):
        """How many places the maker of this name has."""
        for own, places in self.makers:
            if own == name:
                return places
        raise NoMaker(name)

    def rules_of(self, name, side):
        """The numbers of the maker's rules on this side, ascending."""
        self.maker_places(name)
        if side not in SIDES:
            raise InvalidSize("side")
        return tuple([number for number, rule in enumerate(self.rules) if rule[0] == name and rule[1] == side])


def need_book(book):
    """The book itself."""
    if not isinstance(book, Book):
        raise InvalidBook(-1)
    return book


def need_rule(book, rule):
    """The rule in order, known to be for a maker of the book."""
    found = formed_rule(rule, dict(need_book(book).makers))
    if found is None:
        raise InvalidRules(-1)
    return found


def need_number(book, number):
    """The rule of this number."""
    if not is_number_below(number, len(need_book(book).rules)):
        raise NoRule(number)
    return book.rules[number]


def rule_awake(book, rule, row):
    """Whether all premises of the rule, any rule for a maker, hold in the row."""
    found = need_rule(book, rule)
    truths = row_of_places(row, book.maker_places(found[0]))
    if truths is None:
        raise InvalidRow(-1)
    return all_hold(found[2], truths)


def awake_rows(book, number):
    """The rows in which the rule of this number is awake, ascending."""
    rule = need_number(book, number)
    return waking_rows(rule[2], book.maker_places(rule[0]))


def truths_told(book, name, row):
    """What the maker's rules that are awake in the row tell, ascending."""
    truths = [SIDES.index(rule[1]) for rule in book.rules if rule[0] == name and all_hold(rule[2], row)]
    return lot_of(truths)


def told_truths(book, name, row):
    """What the maker's rules that are awake in the row tell, ascending."""
    truths = row_of_places(row, need_book(book).maker_places(name))
    if truths is None:
        raise InvalidRow(-1)
    return truths_told(book, name, truths)


def maker_table(book, name):
    """For each row, ascending, the truth that is told, or None."""
    table = []
    for at, row in enumerate(rows_of(need_book(book).maker_places(name))):
        truths = truths_told(book, name, row)
        if len(truths) > 1:
            raise Refused(at)
        table.append(truths[0] if truths else None)
    return tuple(table)


def _need_parts(book, rule, sayings):
    """The sayings for the rule's places."""
    if not is_sequence(sayings) or len(sayings) != book.maker_places(rule[0]):
        raise InvalidSaying(-1)
    return need_own_sayings(book, sayings)


def filled_premise(premise, sayings):
    """The sheet that the premise is with these sayings in the places."""
    return tuple([ordered_lot([sayings[place - 1] for place in side]) for side in premise])


def rule_saying(book, number, sayings):
    """The saying that the rule is for, with these sayings in the places."""
    rule = need_number(book, number)
    whole = (rule[0],) + _need_parts(book, rule, sayings)
    if is_too_great(whole):
        raise InvalidSaying(-1)
    return whole


def rule_premises(book, number, sayings, sheet):
    """Each premise of the rule filled with the sayings, beside the sheet that has the rule's saying."""
    rule = need_number(book, number)
    parts = _need_parts(book, rule, sayings)
    whole = need_own_sheet(book, sheet)
    # A saying that is too great stands in no sheet.
    if (rule[0],) + parts not in whole[SIDES.index(rule[1])]:
        raise Refused(-1)
    return tuple([beside(filled_premise(premise, parts), whole) for premise in rule[2]])


def without_makers(book, names):
    """The book without these makers and their rules."""
    need_book(book)
    if not is_sequence(names):
        raise NoMaker(names)
    for name in names:
        book.maker_places(name)
    makers = [maker for maker in book.makers if maker[0] not in names]
    return Book(makers, [rule for rule in book.rules if rule[0] not in names])


def put_rules(book, rules):
    """The book with these rules, too."""
    added = Book(need_book(book).makers, rules).rules
    return Book(book.makers, book.rules + added)


def struck_rules(book, numbers):
    """The book without the rules of these numbers."""
    need_book(book)
    if not is_sequence(numbers):
        raise NoRule(numbers)
    for number in numbers:
        need_number(book, number)
    return Book(book.makers, [rule for number, rule in enumerate(book.rules) if number not in numbers])


def rule_text(book, rule):
    """The rule's line, as `right and: | 1; | 2`."""
    return rule_line(need_rule(book, rule))


def book_text(book):
    """The lines of the book, makers first."""
    makers = [f"maker {name} {places}" for name, places in need_book(book).makers]
    return "\n".join(makers + [rule_line(rule) for rule in book.rules])


def read_book(text):
    """The book that the text's lines tell."""
    makers, rules = read_lines(text)
    return Book(makers, rules)
