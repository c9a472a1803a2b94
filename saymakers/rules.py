"""Makers and rules: the values that are such, and their texts."""

from saymakers.errors import InvalidText
from saymakers.kinds import MOST_PLACES, SIDES, is_name, is_number_below, is_sequence, lot_of
from saymakers.premises import formed_premise

MOST_MAKERS = 12
_PLACE_WORDS = ("1", "2", "3")
_COUNT_WORDS = ("0", "1", "2", "3")


def is_maker(value):
    """Whether the value is a name and a number of places."""
    if not is_sequence(value) or len(value) != 2:
        return False
    return is_name(value[0]) and is_number_below(value[1], MOST_PLACES + 1)


def wrong_maker(makers):
    """The place of the first of the makers that is wrong, -1 if they are no sequence, else None."""
    if not is_sequence(makers):
        return -1
    names = {}
    for at, maker in enumerate(makers):
        if not is_maker(maker) or maker[0] in names or at == MOST_MAKERS:
            return at
        names[maker[0]] = True
    return None


def makers_in_order(makers):
    """The makers, known to be right, ascending."""
    return tuple(sorted([(name, places) for name, places in makers]))


def formed_rule(value, places):
    """The value as a rule in order for a maker of the dict places, or None."""
    if not is_sequence(value) or len(value) != 3:
        return None
    name, side, premises = value
    if not is_name(name) or name not in places or side not in SIDES or not is_sequence(premises):
        return None
    formed = [formed_premise(premise, places[name]) for premise in premises]
    return None if None in formed else (name, side, lot_of(formed))


def _premise_line(premise):
    """A premise's text, as `1 2 | 3`."""
    left, right = [" ".join([str(place) for place in side]) for side in premise]
    return (left + " | " + right).strip(" ")


def rule_line(rule):
    """A rule's text, as `right and: | 1; | 2`."""
    name, side, premises = rule
    head = f"{side} {name}:"
    return " ".join([head] + ["; ".join([_premise_line(premise) for premise in premises])]).strip(" ")


def _words(text):
    """What blanks, and blanks only, part."""
    return [word for word in text.split(" ") if word]


def read_maker_line(line):
    """(name, places) of a maker's line, or None."""
    words = _words(line)
    if len(words) != 3 or words[0] != "maker" or not is_name(words[1]) or words[2] not in _COUNT_WORDS:
        return None
    return words[1], int(words[2])


def _read_premise(text):
    """The premise that the text tells, or None."""
    sides = [_words(side) for side in text.split("|")]
    if len(sides) != 2 or not all([word in _PLACE_WORDS for side in sides for word in side]):
        return None
    return tuple([lot_of([int(word) for word in side]) for side in sides])


def read_rule_line(line):
    """(name, side, premises) of a rule's line, or None; places may be too great for the maker."""
    head, colon, body = line.partition(":")
    words = _words(head)
    if not colon or len(words) != 2 or words[0] not in SIDES or not is_name(words[1]):
        return None
    premises = [_read_premise(text) for text in body.split(";")] if _words(body) else []
    return None if None in premises else (words[1], words[0], premises)


def read_lines(text):
    """(makers, rules) that the lines tell, in their order."""
    if not isinstance(text, str):
        raise InvalidText(-1)
    makers = []
    rules = []
    places = {}
    for number, line in enumerate(text.split("\n")):
        maker = read_maker_line(line)
        rule = read_rule_line(line)
        if maker is not None and maker[0] not in places:
            makers.append(maker)
            places[maker[0]] = maker[1]
        elif rule is not None:
            rules.append((number, rule))
        elif _words(line):
            raise InvalidText(number)
    for number, rule in rules:
        if formed_rule(rule, places) is None:
            raise InvalidText(number)
    return makers, [rule for number, rule in rules]
