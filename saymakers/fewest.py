"""Fewest rules: boxes of rows, kinds of rules by their premises, books of single rules."""

from itertools import combinations

from saymakers.books import Book, maker_table
from saymakers.boxes import (
    EITHER, all_bits, bits_of_rows, box_bits, box_premises, boxes_within, fewest_covers, need_rows, rows_of_bits,
    spanned_box, united, wrong_figure)
from saymakers.court import need_calm
from saymakers.errors import InvalidLot, InvalidSize
from saymakers.kinds import SIDES, row_of_places, rows_of
from saymakers.premises import holds_in, least_premises, need_places, plain_premises, waking_rows

_KINDS = ("single", "right", "left", "pair", "any")


def _are_apart(rows, bits):
    """Whether no two of the rows lie in one box that has no other rows than these bits."""
    told = list(rows)
    boxes = [box_bits(spanned_box(one, other)) for one, other in combinations(told, 2)]
    return all([box & ~bits for box in boxes])


def single_paper(places, rows):
    """(as few boxes as can be that have just these rows, as many rows as can be of which no two lie in one box)."""
    bits = need_rows(need_places(places), rows)
    boxes = fewest_covers(boxes_within(places, bits), bits)[0]
    told = list(rows_of_bits(places, bits))
    # More rows than boxes can't be apart, and up to three places as many always can be.
    apart = [lot for lot in combinations(told, len(boxes)) if _are_apart(lot, bits)]
    return boxes, apart[0]


def _ascend(values):
    """Whether the values ascend, each unlike the one before."""
    return all([one < other for one, other in zip(values, values[1:])])


def _formed_lot(value, places, signs):
    """The value, if it is an ascending tuple of rows of so many signs, else None."""
    if not isinstance(value, tuple):
        return None
    rows = [row_of_places(row, places, signs, lists=False) for row in value]
    return value if None not in rows and _ascend(rows) else None


def single_holds(places, rows, value):
    """Whether the value is a pair of boxes with just these rows and of as many rows that are apart."""
    bits = need_rows(need_places(places), rows)
    if not isinstance(value, tuple) or len(value) != 2:
        return False
    boxes = _formed_lot(value[0], places, EITHER + 1)
    apart = _formed_lot(value[1], places, 2)
    if boxes is None or apart is None or len(boxes) != len(apart):
        return False
    if united([box_bits(box) for box in boxes]) != bits or bits_of_rows(places, apart) & ~bits:
        return False
    return _are_apart(apart, bits)


def single_lots(places, rows):
    """All lots of as few boxes as can be that have just these rows, ascending."""
    bits = need_rows(need_places(places), rows)
    return tuple(fewest_covers(boxes_within(places, bits), bits))


def _need_kind(kind):
    """A kind of rules."""
    if not isinstance(kind, str) or kind not in _KINDS:
        raise InvalidSize("kind")
    return kind


def _made_rows(lot, kind):
    """The rows that some rows make, which a rule of the kind is awake in if it is in these."""
    columns = list(zip(lot[0], lot[1], lot[-1]))
    if kind == "single":
        return rows_of_bits(len(lot[0]), box_bits(spanned_box(lot[0], lot[1])))
    if kind == "right":
        return (tuple([min(column) for column in columns]),)
    if kind == "left":
        return (tuple([max(column) for column in columns]),)
    return (tuple([sorted(column)[1] for column in columns]),)


def _breach(rows, kind):
    """(lot, row) of rows that make one that is none of them, or None."""
    if kind == "any":
        return None
    told = list(rows)
    lots = list(combinations(told, 3)) if kind == "pair" else list(combinations(told, 2))
    for lot in lots:
        for row in _made_rows(lot, kind):
            if row not in rows:
                return lot, row
    return None


def kind_breach(places, rows, kind):
    """None if some rule of the kind is awake in just these rows, else some of them and a row that they make."""
    bits = need_rows(need_places(places), rows)
    return _breach(rows_of_bits(places, bits), _need_kind(kind))


def _is_of_kind(premise, kind):
    """Whether a rule of the kind may have the premise."""
    left, right = len(premise[0]), len(premise[1])
    if kind == "single":
        return left + right <= 1
    if kind == "right":
        return right <= 1
    if kind == "left":
        return left <= 1
    return kind == "any" or left + right <= 2


def kind_premises(places, rows, kind):
    """Some premises of the kind, ascending, all of which hold in just these rows, or None."""
    told = rows_of_bits(places, need_rows(need_places(places), rows))
    wanted = _need_kind(kind)
    own = [premise for premise in plain_premises(places) if _is_of_kind(premise, wanted)]
    least = least_premises([premise for premise in own if all([holds_in(premise, row) for row in told])])
    if waking_rows(least, places) != told:
        return None
    kept = least
    for premise in least:
        fewer = tuple([each for each in kept if each != premise])
        if waking_rows(fewer, places) == told:
            kept = fewer
    return kept


def kind_lots(places, rows, kind):
    """Some fewest lots, ascending, that rules of the kind can have and that are just these rows together."""
    bits = need_rows(need_places(places), rows)
    wanted = _need_kind(kind)
    within = [each for each in range(1, bits + 1) if not each & ~bits]
    had = [each for each in within if _breach(rows_of_bits(places, each), wanted) is None]
    # Lots that lie within others are not needed.
    greatest = [each for each in had if not any([other != each and not each & ~other for other in had])]
    cover = fewest_covers([(each, each) for each in greatest], bits)[0]
    return tuple(sorted([rows_of_bits(places, each) for each in cover]))


def premise_count(places, rows):
    """How many premises one rule needs at least to be awake in just these rows."""
    others = all_bits(need_places(places)) & ~need_rows(places, rows)
    return len(fewest_covers(boxes_within(places, others), others)[0])


def wider_rules(places, table):
    """(boxes with all rows that are 1, boxes with all that are 0), apart, together as few as can be."""
    wrong = wrong_figure(need_places(places), table)
    if wrong is not None:
        raise InvalidLot(wrong)
    ones, noughts = [bits_of_rows(places, [row for row, told in zip(rows_of(places), table) if told == truth])
                     for truth in (1, 0)]
    # Up to three places neither side needs more boxes for the other one's sake.
    rights = [(lot, _bits_of_boxes(lot)) for lot in _wider_covers(places, ones, noughts)]
    lefts = [(lot, _bits_of_boxes(lot)) for lot in _wider_covers(places, noughts, ones)]
    return [(one, other) for one, bits in rights for other, more in lefts if not bits & more][0]


def _bits_of_boxes(boxes):
    """All rows of the boxes."""
    return united([box_bits(box) for box in boxes])


def _wider_covers(places, bits, barred):
    """All lots of as few boxes as can be with all these rows and none of those barred."""
    return fewest_covers(boxes_within(places, all_bits(places) & ~barred), bits)


def least_book(book):
    """A book of the same makers and tables with single rules alone, as few as can be."""
    rules = []
    for name, places in need_calm(book).makers:
        table = maker_table(book, name)
        for truth, side in enumerate(SIDES):
            bits = bits_of_rows(places, [row for row, told in zip(rows_of(places), table) if told == truth])
            boxes = fewest_covers(boxes_within(places, bits), bits)[0]
            rules.extend([(name, side, box_premises(box)) for box in boxes])
    return Book(book.makers, rules)
