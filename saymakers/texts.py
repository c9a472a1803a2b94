"""Reading sayings and sheets from text, sign by sign."""

from saymakers.errors import InvalidText
from saymakers.forms import MOST_DEEP, MOST_NAMES, name_count, ordered_lot
from saymakers.kinds import MOST_PLACES, is_letter_sign, is_name


class TextReader:
    """Goes through a text; an early end is met at the text's length."""

    def __init__(self, text):
        if not isinstance(text, str):
            raise InvalidText(-1)
        self.text = text
        self.at = 0

    def next_sign(self):
        """The next sign that is no blank, or the empty string at the end."""
        while self.at < len(self.text) and self.text[self.at] == " ":
            self.at += 1
        return self.text[self.at:self.at + 1]

    def read_name(self):
        """The name that stands here."""
        self.next_sign()
        start = self.at
        while self.at < len(self.text) and is_letter_sign(self.text[self.at]):
            if not is_name(self.text[start:self.at + 1]):
                raise InvalidText(self.at)
            self.at += 1
        if self.at == start:
            raise InvalidText(self.at)
        return self.text[start:self.at]

    def read_part(self, deep):
        """The saying that stands here, within so many makers; its names are not counted."""
        name = self.read_name()
        if self.next_sign() != "(":
            return name
        if deep == MOST_DEEP:
            raise InvalidText(self.at)
        self.at += 1
        whole = [name]
        if self.next_sign() != ")":
            whole.append(self.read_part(deep + 1))
        while self.next_sign() != ")":
            if self.next_sign() != "," or len(whole) > MOST_PLACES:
                raise InvalidText(self.at)
            self.at += 1
            whole.append(self.read_part(deep + 1))
        self.at += 1
        return tuple(whole)

    def read_side(self):
        """One or more sayings, parted by commas."""
        sayings = [self.read_part(0)]
        while self.next_sign() == ",":
            self.at += 1
            sayings.append(self.read_part(0))
        return sayings

    def need_end(self):
        """Nothing but blanks may follow."""
        if self.next_sign():
            raise InvalidText(self.at)

    def need_few_names(self, sayings):
        """Counted last, as an earlier place of no form is told first."""
        for saying in sayings:
            if name_count(saying) > MOST_NAMES:
                raise InvalidText(len(self.text))

    def read_whole_saying(self):
        """The saying that the whole text is."""
        saying = self.read_part(0)
        self.need_end()
        self.need_few_names([saying])
        return saying

    def read_whole_sheet(self):
        """The sheet that the whole text is."""
        left = []
        right = []
        if self.next_sign() != "|":
            left = self.read_side()
        if self.next_sign() != "|":
            raise InvalidText(self.at)
        self.at += 1
        if self.next_sign():
            right = self.read_side()
        self.need_end()
        self.need_few_names(left + right)
        return ordered_lot(left), ordered_lot(right)
