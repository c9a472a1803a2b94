"""Premises of places: when they hold, and what steps make of them."""

from saymakers.errors import InvalidPremises, InvalidSize
from saymakers.kinds import MOST_PLACES, is_number, is_number_below, is_sequence, lot_of, rows_of


def need_places(places):
    """A number of places that a maker may have."""
    if not is_number_below(places, MOST_PLACES + 1):
        raise InvalidSize("places")
    return places


def formed_premise(value, places):
    """The value as a premise in order with no greater place, or None."""
    if not is_sequence(value) or len(value) != 2:
        return None
    for side in value:
        if not is_sequence(side):
            return None
        if not all([is_number(place) and 1 <= place <= places for place in side]):
            return None
    return lot_of(value[0]), lot_of(value[1])


def need_premises(premises, places):
    """The premises, each in order, as they were told."""
    if not is_sequence(premises):
        raise InvalidPremises(-1)
    formed = []
    for at, value in enumerate(premises):
        premise = formed_premise(value, places)
        if premise is None:
            raise InvalidPremises(at)
        formed.append(premise)
    return tuple(formed)


def holds_in(premise, row):
    """Whether some left place is 0 or some right one 1."""
    left, right = premise
    return any([row[place - 1] == 0 for place in left] + [row[place - 1] == 1 for place in right])


def all_hold(premises, row):
    """Whether all the premises hold in the row."""
    return all([holds_in(premise, row) for premise in premises])


def waking_rows(premises, places):
    """The rows in which all the premises hold, ascending."""
    return tuple([row for row in rows_of(places) if all_hold(premises, row)])


def has_both(premise):
    """Whether a place stands on both sides: then the premise always holds."""
    return any([place in premise[1] for place in premise[0]])


def is_within(premise, other):
    """Whether all places of the one stand so in the other."""
    return all([place in other[side] for side in (0, 1) for place in premise[side]])


def plain_premises(places):
    """All premises of these places without a place on both sides."""
    premises = [((), ())]
    for place in range(1, places + 1):
        more = [(left + (place,), right) for left, right in premises]
        more.extend([(left, right + (place,)) for left, right in premises])
        premises = premises + more
    return premises


def least_premises(premises):
    """Those within which no other one lies, ascending."""
    least = [each for each in premises if not any([other != each and is_within(other, each) for other in premises])]
    return lot_of(least)


def can_step(one, other, place):
    """Whether a step on the place can be made of the two."""
    return place in one[1] and place in other[0]


def stepped(one, other, place):
    """What a step makes: the place goes from the one's right and the other's left only."""
    left = [each for each in other[0] if each != place]
    right = [each for each in one[1] if each != place]
    return lot_of(list(one[0]) + left), lot_of(right + list(other[1]))
