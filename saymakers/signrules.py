"""Rules of many signs: which joins are needed, the fewest rules, what tells two books of signs apart."""

from itertools import combinations

from saymakers.errors import InvalidSigned, Refused
from saymakers.kinds import lot_of, rows_of
from saymakers.signforms import signs_in_order
from saymakers.signs import Signed, need_signed, row_letters, row_refusal, signed_court, signed_table
from saymakers.signsearch import rows_with_joins


def _need_calm_signs(signed):
    """The book of signs, if it is calm."""
    if signed_court(need_signed(signed)) != ("calm",):
        raise Refused(-1)
    return signed


def _row_sheet(signed, name, row, signs):
    """The refusal of the row with the pairs of the maker's saying with these signs."""
    whole = (name,) + row_letters(row)
    return signs_in_order(row_refusal(signed.count, row) + tuple([(sign, whole) for sign in signs]))


def joins_paper(signed):
    """Whether all joins can be left out, or the first row that needs them and a sheet that shows it."""
    found = rows_with_joins(_need_calm_signs(signed))
    if not found:
        return ("without",)
    name, row, table = found[0]
    return ("needed", name, row, _row_sheet(signed, name, row, table))


def _waking_premises(count, rows, others):
    """Premises of few pairs that hold in all these rows, not all in any of the others."""
    premises = []
    for barred in others:
        if all([_holds(premise, barred) for premise in premises]):
            premises.append(_shortened(_all_but(count, barred), rows))
    return lot_of(premises)


def _all_but(count, row):
    """The premise that holds in all rows but this one."""
    return tuple([(sign, place) for sign in range(count) for place, own in enumerate(row, start=1) if sign != own])


def _holds(premise, row):
    """Whether some pair of the premise has its sign in the row."""
    return any([row[place - 1] == sign for sign, place in premise])


def _shortened(premise, rows):
    """The premise without pairs that it does not need to hold in all the rows."""
    for pair in premise:
        fewer = tuple([each for each in premise if each != pair])
        if all([_holds(fewer, row) for row in rows]):
            return _shortened(fewer, rows)
    return premise


def _rule_of_lot(signed, name, lot, rows):
    """A rule of this lot, awake in these rows at least, that changes no table."""
    tables = list(zip(rows_of(dict(signed.makers)[name], signed.count), signed_table(signed, name)))
    others = [row for row, table in tables if not all([sign in lot for sign in table])]
    return (name, lot, _waking_premises(signed.count, rows, others))


def added_rules(signed):
    """Some fewest rules to be put in so that no row needs joins while the tables stay, ascending."""
    needing = {}
    for name, row, table in rows_with_joins(_need_calm_signs(signed)):
        needing.setdefault((name, table), []).append(row)
    return lot_of([_rule_of_lot(signed, name, table, rows) for (name, table), rows in needing.items()])


def _sign_lots(count):
    """All lots of signs, not none and not all, ascending."""
    lots = [()]
    for sign in range(count):
        lots = lots + [lot + (sign,) for lot in lots]
    return sorted([lot for lot in lots if 0 < len(lot) < count])


def _is_within(lot, other):
    """Whether all signs of the one lot are in the other."""
    return all([sign in other for sign in lot])


def _tell_table(lots, table, count):
    """Whether just the signs of the table are in all those of the lots that have them."""
    around = [lot for lot in lots if _is_within(table, lot)]
    return tuple([sign for sign in range(count) if all([sign in lot for lot in around])]) == table


def _fewest_lots(count, tables):
    """Some fewest lots by which all these tables are told."""
    lots = _sign_lots(count)
    for many in range(count + 1):
        for chosen in combinations(lots, many):
            if all([_tell_table(chosen, table, count) for table in tables]):
                return chosen
    return ()


def few_rules(signed):
    """Some book of signs with these makers and tables that has the fewest rules for each maker."""
    rules = []
    for name, places in _need_calm_signs(signed).makers:
        tables = list(zip(rows_of(places, signed.count), signed_table(signed, name)))
        for lot in _fewest_lots(signed.count, [table for row, table in tables]):
            rows = [row for row, table in tables if _is_within(table, lot)]
            rules.append(_rule_of_lot(signed, name, lot, rows))
    return Signed(signed.count, signed.makers, rules)


def signed_apart(signed, other):
    """(0 or 1, a sheet that has a proof in this one of the two books alone), or None."""
    books = (signed, other)
    for at, book in enumerate(books):
        if not isinstance(book, Signed):
            raise InvalidSigned(at)
    for at, book in enumerate(books):
        if signed_court(book) != ("calm",):
            raise Refused(at)
    if signed.count != other.count or signed.makers != other.makers:
        raise Refused(-1)
    for name, places in signed.makers:
        for row, first, second in zip(rows_of(places, signed.count), signed_table(signed, name),
                                      signed_table(other, name)):
            if first != second:
                # The lesser table tells more; if neither lies within the other, either does.
                which = 1 if _is_within(second, first) else 0
                return which, _row_sheet(signed, name, row, (first, second)[which])
    return None
