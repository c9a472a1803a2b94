"""Premises that lead to others by steps, and prime ones."""

from saymakers.books import Book, need_book
from saymakers.errors import InvalidPremises, InvalidRow
from saymakers.kinds import is_sequence, lot_of, row_of_places
from saymakers.premises import (
    formed_premise, has_both, holds_in, is_within, least_premises, need_places, need_premises, plain_premises,
    waking_rows)
from saymakers.steps import brought, found_steps


def _prime_of_rows(places, rows):
    """The prime ones of the premises that hold in all these rows, ascending."""
    return least_premises([each for each in plain_premises(places) if all([holds_in(each, row) for row in rows])])


def prime_premises(places, premises):
    """The least premises that hold wherever all these do, ascending."""
    need_places(places)
    return _prime_of_rows(places, waking_rows(need_premises(premises, places), places))


def rows_premises(places, rows):
    """The prime premises that are awake in just these rows, ascending."""
    need_places(places)
    if not is_sequence(rows):
        raise InvalidRow(-1)
    formed = []
    for at, value in enumerate(rows):
        row = row_of_places(value, places)
        if row is None:
            raise InvalidRow(at)
        formed.append(row)
    return _prime_of_rows(places, formed)


def _need_lead(places, premises, goal):
    """(premises ascending, the goal), both in order."""
    need_places(places)
    told = lot_of(need_premises(premises, places))
    found = formed_premise(goal, places)
    if found is None:
        raise InvalidPremises(-1)
    return told, found


def lead_steps(places, premises, goal):
    """Steps from the premises to one within the goal; None if some row wakes them and not the goal."""
    told, end = _need_lead(places, premises, goal)
    return () if has_both(end) else found_steps(told, end)


def leads_hold(places, premises, goal, value):
    """Whether the value is such a row of steps."""
    told, end = _need_lead(places, premises, goal)
    made = brought(told, value)
    if made is None:
        return False
    if has_both(end):
        return True
    if len(made) > len(told):
        return is_within(made[-1], end)
    return any([is_within(premise, end) for premise in told])


def prime_book(book):
    """The book with prime premises in each rule; it has the same tables."""
    rules = []
    for name, side, premises in need_book(book).rules:
        places = book.maker_places(name)
        rules.append((name, side, _prime_of_rows(places, waking_rows(premises, places))))
    return Book(book.makers, rules)
