"""Records: papers with their questions, made and looked at again."""

from saymakers.careful import careful_holds, careful_paper
from saymakers.court import clash_steps, court_holds, court_paper, steps_hold
from saymakers.errors import Refused, SayError
from saymakers.facts import follow_holds, follow_paper
from saymakers.judge import sheet_holds, sheet_paper
from saymakers.kinds import is_sequence
from saymakers.made import writing_holds, writing_paper
from saymakers.mending import strike_holds, strike_paper
from saymakers.middles import middle_holds, some_middle
from saymakers.signproofs import signed_holds, signed_paper
from saymakers.signs import odds_hold, signed_court
from saymakers.wholly import whole_holds, whole_paper

# How many things a question of each word has.
_LENGTHS = {
    "court": 1, "steps": 1, "sheet": 2, "follow": 3, "whole": 2, "strike": 2, "middle": 3, "writing": 3, "careful": 3,
    "odds": 1, "signed": 2}


def _is_word(value):
    """Whether the value is the word of some records."""
    return isinstance(value, str) and value in _LENGTHS


def _told(word, question):
    """What the word's former function tells."""
    if word == "court":
        return court_paper(question[0])
    if word == "steps":
        return clash_steps(question[0])
    if word == "sheet":
        return sheet_paper(question[0], question[1])
    if word == "follow":
        return follow_paper(question[0], question[1], question[2])
    if word == "whole":
        return whole_paper(question[0], question[1])
    if word == "strike":
        return strike_paper(question[0], question[1])
    if word == "middle":
        return some_middle(question[0], question[1], question[2])
    if word == "writing":
        return writing_paper(question[0], question[1], question[2])
    if word == "careful":
        return careful_paper(question[0], question[1], question[2])
    if word == "odds":
        return signed_court(question[0])
    return signed_paper(question[0], question[1])


def _is_held(word, question, value):
    """Whether the word's latter function takes the value."""
    if word == "court":
        return court_holds(question[0], value)
    if word == "steps":
        return steps_hold(question[0], value)
    if word == "sheet":
        return sheet_holds(question[0], question[1], value)
    if word == "follow":
        return follow_holds(question[0], question[1], question[2], value)
    if word == "whole":
        return whole_holds(question[0], question[1], value)
    if word == "strike":
        return strike_holds(question[0], question[1], value)
    if word == "middle":
        return middle_holds(question[0], question[1], question[2], value)
    if word == "writing":
        return writing_holds(question[0], question[1], question[2], value)
    if word == "careful":
        return careful_holds(question[0], question[1], question[2], value)
    if word == "odds":
        return odds_hold(question[0], value)
    return signed_holds(question[0], question[1], value)


def _has_lists(value):
    """Whether a list stands in the value at any depth."""
    rest = [value]
    while rest:
        each = rest.pop()
        if isinstance(each, list):
            return True
        if isinstance(each, tuple):
            rest.extend(list(each))
    return False


def _in_tuples(value):
    """The value with tuples in place of lists."""
    return tuple([_in_tuples(each) for each in value]) if is_sequence(value) else value


def record_holds(value):
    """Whether the value is a record, without lists, of something that holds."""
    if not isinstance(value, tuple) or len(value) != 3 or _has_lists(value):
        return False
    word, question, paper = value
    if not _is_word(word) or not isinstance(question, tuple) or len(question) != _LENGTHS[word]:
        return False
    try:
        return _is_held(word, question, paper)
    except SayError:
        return False


def make_record(word, question):
    """The record of what the word's former function tells."""
    if not _is_word(word):
        raise Refused("word")
    if not is_sequence(question) or len(question) != _LENGTHS[word]:
        raise Refused("question")
    turned = _in_tuples(question)
    paper = _told(word, turned)
    if paper is None:
        raise Refused("paper")
    return (word, turned, paper)


def wrong_records(values):
    """The places of the values that are no records that hold, ascending."""
    if not is_sequence(values):
        raise Refused("records")
    return tuple([at for at, value in enumerate(values) if not record_holds(value)])
