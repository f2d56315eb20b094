"""Words of texts: names, numbers and signs, each with the column in which it begins."""

from allstitches.faults import BadText

SIGNS = ",*/()+-"
MOST_DIGITS = 3


def is_letter(sign):
    """Whether a sign is a letter from a to z."""
    return "a" <= sign <= "z"


def is_digit(sign):
    """Whether a sign is a digit from 0 to 9."""
    return "0" <= sign <= "9"


def is_number(word):
    """Whether a word is a number that may stand in a text."""
    if not is_digit(word[:1]) or len(word) > MOST_DIGITS:
        return False
    return word == "0" or word[0] != "0"


def end_of_word(text, at):
    """The place behind the word that begins at a place, which is the same place if none does."""
    if text[at] in SIGNS:
        return at + 1
    if not is_digit(text[at]) and not is_letter(text[at]):
        return at
    has_letters = is_letter(text[at])
    end = at + 1
    while end < len(text) and (is_digit(text[end]) or has_letters and is_letter(text[end])):
        end = end + 1
    return end


def words_in(text, line):
    """The list of the words of a line, each with its column; BadText for a sign that is no part of a word."""
    found = []
    at = 0
    while at < len(text):
        if text[at] == " ":
            at = at + 1
            continue
        end = end_of_word(text, at)
        if end == at:
            raise BadText(line, at + 1)
        found.append((text[at:end], at + 1))
        at = end
    return found


def words_of_text(text):
    """The Words of a text that is one line, and not indented."""
    if not isinstance(text, str):
        raise BadText(0, 0)
    words = Words(text, 1)
    words.check_indent(0)
    return words


class Words:
    """The words of a line, taken one by one; what does not fit is refused with its place in the text."""

    def __init__(self, text, line):
        self._line = line
        self._end = len(text) + 1
        self._words = words_in(text, line)
        self._taken = 0

    def refuse(self):
        """Raises BadText at the next word, or behind the line if there is none."""
        raise BadText(self._line, self._column())

    def _column(self):
        if self._taken < len(self._words):
            return self._words[self._taken][1]
        return self._end

    def indent(self):
        """How many blanks stand in front of the next word."""
        return self._column() - 1

    def check_indent(self, many):
        """Refuses the first word, if not so many blanks stand in front of it."""
        if self._words and self.indent() != many:
            self.refuse()

    def peek(self, ahead=0):
        """The next word, or one so many words further ahead; "" if there is none."""
        at = self._taken + ahead
        return self._words[at][0] if at < len(self._words) else ""

    def take(self):
        """The next word, which is passed."""
        word = self.peek()
        self._taken = self._taken + 1
        return word

    def skips(self, word):
        """Whether the next word is a certain one, which then is passed."""
        if self.peek() != word:
            return False
        self.take()
        return True

    def expect(self, word):
        """Passes the next word, which is to be a certain one."""
        if not self.skips(word):
            self.refuse()

    def has_digits(self):
        """Whether the next word is of digits."""
        return is_digit(self.peek()[:1])

    def take_number(self, least):
        """The next word as a number, from a least one on, which is passed."""
        if not is_number(self.peek()) or int(self.peek()) < least:
            self.refuse()
        return int(self.take())

    def finish(self):
        """Refuses what is left."""
        if self.peek() != "":
            self.refuse()
