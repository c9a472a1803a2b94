"""Live books: makers, rules and facts that are put in and struck, and sheets that are asked."""

from saymakers.books import Book, need_number, put_rules, struck_rules, without_makers
from saymakers.court import is_calm
from saymakers.errors import InvalidIndex, InvalidMakers, InvalidRules, Refused
from saymakers.facts import follow_holds, follow_paper
from saymakers.forms import ordered_lot, own_sheet, parts_of
from saymakers.kinds import is_name, is_number_below
from saymakers.needs import need_own_sheet
from saymakers.rules import formed_rule, is_maker
from saymakers.sayings import sheet_text


def _renamed_saying(saying, name, new):
    """The saying with the maker's new name."""
    if isinstance(saying, str):
        return saying
    own = new if saying[0] == name else saying[0]
    return (own,) + tuple([_renamed_saying(part, name, new) for part in saying[1:]])


def _renamed_sheet(sheet, name, new):
    """The sheet with the maker's new name."""
    return tuple([ordered_lot([_renamed_saying(saying, name, new) for saying in side]) for side in sheet])


def _has_maker(sheet, name):
    """Whether the maker stands in the sheet."""
    return any([not isinstance(part, str) and part[0] == name for part in parts_of(sheet[0] + sheet[1])])


class Live:
    """A calm book and facts that change by deeds, which can be taken back, and answers that are kept."""

    def __init__(self):
        self.book = Book((), ())
        self.facts = ()
        self._before = []
        self._behind = []
        # (sheet, its last paper) by the sheet's text, in the order in which they were first asked.
        self._asked = {}

    def _do(self, book, facts):
        """A deed that leads to this book and these facts."""
        self._before.append((self.book, self.facts))
        self._behind = []
        self.book = book
        self.facts = facts

    def put_maker(self, name, places):
        """Puts a maker in."""
        if not is_maker((name, places)):
            raise InvalidMakers(-1)
        if self._is_there(name):
            raise Refused("maker")
        self._do(Book(self.book.makers + ((name, places),), self.book.rules), self.facts)

    def _is_there(self, name):
        """Whether there is a maker of this name."""
        return name in [own for own, places in self.book.makers]

    def drop_maker(self, name):
        """Takes a maker of no fact out, with its rules."""
        less = without_makers(self.book, (name,))
        if any([_has_maker(fact, name) for fact in self.facts]):
            raise Refused("facts")
        self._do(less, self.facts)

    def rename_maker(self, name, new):
        """Gives a maker a new name, in rules and facts, too."""
        self.book.maker_places(name)
        if not is_name(new):
            raise InvalidMakers(-1)
        if self._is_there(new):
            raise Refused("maker")
        makers = [(new if own == name else own, places) for own, places in self.book.makers]
        rules = [(new if own == name else own, side, premises) for own, side, premises in self.book.rules]
        self._do(Book(makers, rules), tuple([_renamed_sheet(fact, name, new) for fact in self.facts]))

    def put_rule(self, rule):
        """Puts a rule in with which the book stays calm."""
        found = formed_rule(rule, dict(self.book.makers))
        if found is None:
            raise InvalidRules(-1)
        if found in self.book.rules:
            raise Refused("rule")
        greater = put_rules(self.book, (found,))
        if not is_calm(greater):
            raise Refused("clash")
        self._do(greater, self.facts)

    def strike_rule(self, number):
        """Takes the rule of this number out."""
        need_number(self.book, number)
        self._do(struck_rules(self.book, (number,)), self.facts)

    def tell_fact(self, sheet):
        """Puts a fact behind the others."""
        fact = need_own_sheet(self.book, sheet)
        if fact in self.facts:
            raise Refused("fact")
        self._do(self.book, self.facts + (fact,))

    def strike_fact(self, number):
        """Takes the fact of this number out."""
        if not is_number_below(number, len(self.facts)):
            raise InvalidIndex(-1)
        self._do(self.book, self.facts[:number] + self.facts[number + 1:])

    def undo_deed(self):
        """Takes back the last deed that is not taken back; whether there was one."""
        if not self._before:
            return False
        self._behind.append((self.book, self.facts))
        self.book, self.facts = self._before.pop()
        return True

    def redo_deed(self):
        """Does again the deed taken back last, if there was no new one since; whether there was one."""
        if not self._behind:
            return False
        self._before.append((self.book, self.facts))
        self.book, self.facts = self._behind.pop()
        return True

    def ask_sheet(self, sheet):
        """A paper of what follows: the last one of the sheet, as long as it holds."""
        whole = need_own_sheet(self.book, sheet)
        text = sheet_text(whole)
        if text in self._asked:
            paper = self._asked[text][1]
            if follow_holds(self.book, self.facts, whole, paper):
                return paper
        paper = follow_paper(self.book, self.facts, whole)
        self._asked[text] = (whole, paper)
        return paper

    def turned_sheets(self):
        """The sheets asked whose answer is now another one, in the order in which they were first asked."""
        places = dict(self.book.makers)
        asked = [pair for pair in self._asked.values() if own_sheet(pair[0], places) is not None]
        return tuple([sheet for sheet, paper in asked
                      if follow_paper(self.book, self.facts, sheet)[0] != paper[0]])
