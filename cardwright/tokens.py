"""The tokens of a program text, and a cursor over them (points 400 to 405)."""

from cardwright.decimals import parse
from cardwright.errors import BadDecimal, BadPicture, BadProgram
from cardwright.limits import MOST_DIGITS, MOST_LEVEL, MOST_PROGRAM, MOST_TEXT
from cardwright.pictures import parse_picture
from cardwright.words import are_figures, is_name, is_printable

QUOTE = "'"
DOUBLED_QUOTE = "''"
LEVEL_FIGURES = 2


class Cursor:
    """A place in the tokens of a text, at first ahead of the first one."""

    def __init__(self, text):
        self._tokens = tokens(text)
        self._at = 0

    @property
    def row(self):
        if len(self._tokens) == 0:
            return 1
        return self._tokens[min(self._at, len(self._tokens) - 1)][0]

    @property
    def row_behind(self):
        return self._tokens[self._at - 1][0] if self._at > 0 else 1

    def is_done(self):
        return self._at == len(self._tokens)

    def is_at_string(self):
        return not self.is_done() and self.peek() == ""

    def peek(self):
        return self._next_of_kind("word")

    def accept(self, word):
        if self.peek() != word:
            return False
        self._at = self._at + 1
        return True

    def expect(self, *words):
        for word in words:
            if not self.accept(word):
                self._refuse("word")

    def take_one_of(self, words):
        word = self.peek()
        if word not in words:
            self._refuse("word")
        self._at = self._at + 1
        return word

    def take_name(self):
        name = self.peek()
        if not is_name(name):
            self._refuse("word")
        self._at = self._at + 1
        return name

    def take_decimal(self):
        word = self.peek()
        if not is_numeric(word):
            self._refuse("word")
        try:
            value = parse(word)
        except BadDecimal:
            raise BadProgram(self.row, "value") from None
        self._at = self._at + 1
        return value

    def take_string(self):
        string = self._next_of_kind("string")
        if self.peek() != "":
            self._refuse("word")
        if not 1 <= len(string) <= MOST_TEXT:
            self._refuse("value")
        self._at = self._at + 1
        return string

    def take_integer(self, *, least=0, greatest):
        word = self.peek()
        if not are_figures(word):
            self._refuse("word")
        if not _is_integer_word(word) or not least <= int(word) <= greatest:
            self._refuse("value")
        self._at = self._at + 1
        return int(word)

    def take_level(self):
        word = self.peek()
        if not are_figures(word):
            self._refuse("word")
        if len(word) != LEVEL_FIGURES or not 1 <= int(word) <= MOST_LEVEL:
            self._refuse("value")
        self._at = self._at + 1
        return int(word)

    def take_picture(self):
        word = self.peek()
        if word == "":
            self._refuse("word")
        try:
            picture = parse_picture(word)
        except BadPicture:
            raise BadProgram(self.row, "picture") from None
        self._at = self._at + 1
        return picture

    def _next_of_kind(self, kind):
        """Return the word of the next token, or the empty string if it is not of the kind."""
        if self.is_done():
            return ""
        _, found, word = self._tokens[self._at]
        return word if found == kind else ""

    def _refuse(self, reason):
        # Where no token is left, what is wrong with it does not matter.
        raise BadProgram(self.row, "end" if self.is_done() else reason)


def quoted(string):
    return QUOTE + string.replace(QUOTE, DOUBLED_QUOTE) + QUOTE


def tokens(text):
    if len(text) > MOST_PROGRAM:
        raise BadProgram(0, "size")
    lines = text.split("\n")
    # A character at fault comes ahead of a quote at fault, even on a later line.
    for at, line in enumerate(lines, start=1):
        if not is_printable(line):
            raise BadProgram(at, "character")
    found = []
    for at, line in enumerate(lines, start=1):
        found.extend(_tokens_of_line(at, line))
    return found


def is_numeric(word):
    """Tell if a word is numeric (point 405); it need not be a number."""
    return are_figures(word[:1]) or (word.startswith("-") and len(word) > 1)


def _is_integer_word(figures):
    return len(figures) <= MOST_DIGITS and (figures == "0" or figures[0] != "0")


def _tokens_of_line(row, line):
    found = []
    at = 0
    while at < len(line):
        if line[at] == " ":
            at = at + 1
        elif line[at] == QUOTE:
            end = _end_of_string(row, line, at)
            string = line[at + 1:end - 1]
            found.append((row, "string", string.replace(DOUBLED_QUOTE, QUOTE)))
            at = end
        else:
            end = _end_of_word(row, line, at)
            found.append((row, "word", line[at:end]))
            at = end
    return found


def _end_of_string(row, line, start):
    """Return the place behind the closing quote."""
    at = line.find(QUOTE, start + 1)
    while at >= 0 and line[at + 1:at + 2] == QUOTE:
        at = line.find(QUOTE, at + 2)
    if at < 0 or line[at + 1:at + 2] not in ("", " "):
        raise BadProgram(row, "quote")
    return at + 1


def _end_of_word(row, line, start):
    space = line.find(" ", start)
    end = len(line) if space < 0 else space
    if QUOTE in line[start:end]:
        raise BadProgram(row, "quote")
    return end
