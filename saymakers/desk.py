"""A desk: commands in words for a live book."""

from saymakers.books import book_text, maker_table, put_rules
from saymakers.court import is_calm, nonsense_proof
from saymakers.errors import InvalidCommand, InvalidRules
from saymakers.facts import joined_proof
from saymakers.forms import text_of
from saymakers.kinds import is_name, rows_of
from saymakers.live import Live
from saymakers.rules import formed_rule, read_maker_line, read_rule_line
from saymakers.sayings import read_sheet, sheet_text
from saymakers.shown import proof_lines

_DONE = "done"
_NONE = "none"
_TRUTHS = {0: "f", 1: "t", None: "open"}
_FIGURES = "0123456789"
_MOST_FIGURES = 4


def _need_name(word):
    """The word, if it is a name."""
    if not is_name(word):
        raise InvalidCommand()
    return word


def _need_number(word):
    """The number that the word's figures tell."""
    if not 1 <= len(word) <= _MOST_FIGURES or not all([sign in _FIGURES for sign in word]):
        raise InvalidCommand()
    if word[0] == "0" and word != "0":
        raise InvalidCommand()
    return int(word)


def _lines(rows):
    """The rows as lines, or that there are none."""
    return "\n".join(rows) if rows else _NONE


def _yes(truth):
    """A truth in a word."""
    return "yes" if truth else "no"


class Desk:
    """Does what commands say to its live book and tells what is shown."""

    def __init__(self):
        self.live = None

    def say(self, command):
        """Does what the command says."""
        if not isinstance(command, str) or (self.live is None and command != "start"):
            raise InvalidCommand()
        if command == "start":
            self.live = Live()
            return _DONE
        maker = read_maker_line(command)
        rule = read_rule_line(command)
        if maker is not None:
            self.live.put_maker(maker[0], maker[1])
            return _DONE
        if rule is not None:
            self.live.put_rule(rule)
            return _DONE
        word, blank, rest = command.partition(" ")
        if not blank:
            return self._say_word(word)
        if word in ("asks", "world", "proof", "fact"):
            return self._say_sheet(word, rest)
        if word in ("strike", "unfact"):
            return self._say_number(word, _need_number(rest))
        if word == "would":
            return self._say_rule(read_rule_line(rest))
        return self._say_names(word, rest.split(" "))

    def _say_word(self, word):
        """A command of one word."""
        if word == "undo":
            return _yes(self.live.undo_deed())
        if word == "redo":
            return _yes(self.live.redo_deed())
        if word == "book":
            return book_text(self.live.book) or _NONE
        if word == "facts":
            return _lines([f"{number}: {sheet_text(fact)}" for number, fact in enumerate(self.live.facts)])
        if word == "turned":
            return _lines([sheet_text(sheet) for sheet in self.live.turned_sheets()])
        raise InvalidCommand()

    def _say_sheet(self, word, text):
        """A command about a sheet."""
        sheet = read_sheet(text)
        if word == "fact":
            self.live.tell_fact(sheet)
            return _DONE
        kind, told = self.live.ask_sheet(sheet)
        if word == "asks":
            return _yes(kind == "tree")
        if word == "world":
            pairs = () if kind == "tree" else told
            return _lines([f"{text_of(saying)} {_TRUTHS[truth]}" for saying, truth in pairs])
        if kind == "world":
            return _NONE
        facts = self.live.facts
        return _lines(proof_lines(self.live.book, facts, joined_proof(self.live.book, facts, sheet)))

    def _say_number(self, word, number):
        """A command about a rule's or a fact's number."""
        if word == "strike":
            self.live.strike_rule(number)
        else:
            self.live.strike_fact(number)
        return _DONE

    def _say_rule(self, rule):
        """Whether the book would be calm with one rule more, or a proof that it would not."""
        if rule is None:
            raise InvalidCommand()
        found = formed_rule(rule, dict(self.live.book.makers))
        if found is None:
            raise InvalidRules(-1)
        greater = put_rules(self.live.book, (found,))
        if is_calm(greater):
            return "calm"
        return _lines(proof_lines(greater, (), nonsense_proof(greater, "q", "r")))

    def _say_names(self, word, names):
        """A command about makers' names."""
        if word == "rename" and len(names) == 2:
            self.live.rename_maker(_need_name(names[0]), _need_name(names[1]))
            return _DONE
        if word not in ("drop", "table") or len(names) != 1:
            raise InvalidCommand()
        if word == "drop":
            self.live.drop_maker(_need_name(names[0]))
            return _DONE
        table = maker_table(self.live.book, _need_name(names[0]))
        rows = rows_of(self.live.book.maker_places(names[0]))
        return _lines([" ".join([_TRUTHS[truth] for truth in row + (told,)]) for row, told in zip(rows, table)])
