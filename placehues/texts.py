"""MACHINES, HISTORIES, BOOKS and PAIRBOOKS as texts of lines."""

from placehues.books import is_book, letters_of
from placehues.errors import BadLine, Unfit
from placehues.kinds import is_ascending
from placehues.machines import is_machine, letters_in
from placehues.pairbooks import is_pairbook
from placehues.words import is_history

FIGURES = "0123456789"


def _line(words):
    """The line of these words and numbers."""
    return " ".join([str(word) for word in words])


def _answers_line(answers):
    """The line of these answers."""
    return _line(["answers"] + ["yes" if own else "no" for own in answers])


def machine_text(machine):
    """The text of a MACHINE."""
    steps, ends = machine
    states = [_line(["state", *row]) for row in steps]
    return "\n".join([_line(["machine", letters_in(machine)])] + states + [_line(["ends", *ends])])


def history_text(history):
    """The text of a HISTORY."""
    many, changes = history
    return "\n".join([_line(["history", many])] + [_line(["change", *change]) for change in changes])


def book_text(book):
    """The text of a BOOK."""
    answers, hues, begin, rows = book
    head = [_line(["book", letters_of(book)]), _answers_line(answers), _line(["hues", *hues]), _line(["begin", *begin])]
    return "\n".join(head + [_row_line(row) for lines in rows for line in lines for row in line])


def _row_line(row):
    """The line of a ROW."""
    flag, own, left, right = row
    return _line(["row", flag, own, "left", *left, "right", *right])


def pairbook_text(pairbook):
    """The text of a PAIRBOOK."""
    answers, begin, table = pairbook
    head = [_line(["pairbook", len(table[0]) - 1]), _answers_line(answers), _line(["begin", begin])]
    return "\n".join(head + [_line(["row", *line]) for lines in table for line in lines])


def is_figures(word):
    """Whether word is a number in figures, without a needless 0."""
    if word == "" or not all([sign in FIGURES for sign in word]):
        return False
    return word == "0" or word[0] != "0"


class Reader:
    """Reads a text line by line; BadLine(line) for the first line that can not stand there."""

    def __init__(self, text):
        # the empty text has no line
        self.lines = text.split("\n") if text != "" else []
        self.line = 0

    def has_more(self):
        """Whether there are lines that are not read."""
        return self.line < len(self.lines)

    def begins(self, word):
        """Whether the next line, if there is one, begins with word."""
        return self.has_more() and self.lines[self.line].split(" ")[0] == word

    def read_words(self, name):
        """The words behind name in the next line, which begins with it."""
        begins = self.begins(name)
        self.line += 1
        self.ask(begins)
        return self.lines[self.line - 1].split(" ")[1:]

    def ask(self, fit):
        """BadLine for the line that was read last if it is not fit."""
        if not fit:
            raise BadLine(self.line)

    def fit_numbers(self, words):
        """The tuple of the numbers that these words are."""
        self.ask(all([is_figures(word) for word in words]))
        return tuple([int(word) for word in words])

    def read_numbers(self, name):
        """The tuple of the numbers behind name in the next line."""
        return self.fit_numbers(self.read_words(name))

    def read_so_many(self, name, many):
        """As read_numbers, of a line with so many of them."""
        numbers = self.read_numbers(name)
        self.ask(len(numbers) == many)
        return numbers

    def read_many(self, name):
        """The number from 1 that stands alone behind name in the next line."""
        many = self.read_so_many(name, 1)[0]
        self.ask(many > 0)
        return many

    def read_answers(self):
        """The tuple of the answers in the next line, one at least."""
        words = self.read_words("answers")
        self.ask(len(words) > 0 and all([word in ("yes", "no") for word in words]))
        return tuple([word == "yes" for word in words])

    def read_row(self, many):
        """The ROW in the next line, each map having so many HUES."""
        words = self.read_words("row")
        self.ask(len(words) == 2 * many + 4 and words[2] == "left" and words[many + 3] == "right")
        flag, own = self.fit_numbers(words[:2])
        return flag, own, self.fit_numbers(words[3:many + 3]), self.fit_numbers(words[many + 4:])

    def read_line(self, many, letters):
        """The tuple of the ROWS of one FLAG and one HUE, each map having so many HUES, in the next lines."""
        return tuple([self.read_row(many) for _ in range(letters + 1)])

    def read_rows(self, many, letters):
        """The tuple of the ROWS of one FLAG, a line of them for each of so many HUES."""
        return tuple([self.read_line(many, letters) for _ in range(many)])

    def read_lines(self, many, letters):
        """The tuple with for each letter what a table has for one TINT and each of so many behind it."""
        return tuple([self.read_so_many("row", many) for _ in range(letters + 1)])

    def told(self, thing, is_fit):
        """thing, if no lines are left; Unfit() if it is not fit."""
        if self.has_more():
            raise BadLine(self.line + 1)
        if not is_fit:
            raise Unfit()
        return thing


def machine_read(text):
    """The MACHINE that has this text; BadLine(line) for a line that can not stand there, then Unfit()."""
    reader = Reader(text)
    letters = reader.read_many("machine")
    steps = [reader.read_so_many("state", letters)]
    while reader.begins("state"):
        steps.append(reader.read_so_many("state", letters))
    ends = reader.read_numbers("ends")
    reader.ask(is_ascending(ends))
    machine = (tuple(steps), ends)
    return reader.told(machine, is_machine(machine))


def history_read(text):
    """The HISTORY that has this text; BadLine(line) for a line that can not stand there, then Unfit()."""
    reader = Reader(text)
    many = reader.read_many("history")
    changes = []
    while reader.has_more():
        changes.append(reader.read_so_many("change", 2))
    history = (many, tuple(changes))
    return reader.told(history, is_history(history))


def book_read(text):
    """The BOOK that has this text; BadLine(line) for a line that can not stand there, then Unfit()."""
    reader = Reader(text)
    letters = reader.read_many("book")
    answers = reader.read_answers()
    hues = reader.read_numbers("hues")
    reader.ask(len(hues) > 0)
    begin = reader.read_so_many("begin", 2)
    rows = tuple([reader.read_rows(len(hues), letters) for _ in answers])
    book = (answers, hues, begin, rows)
    return reader.told(book, is_book(book))


def pairbook_read(text):
    """The PAIRBOOK that has this text; BadLine(line) for a line that can not stand there, then Unfit()."""
    reader = Reader(text)
    letters = reader.read_many("pairbook")
    answers = reader.read_answers()
    begin = reader.read_so_many("begin", 1)[0]
    table = tuple([reader.read_lines(len(answers), letters) for _ in answers])
    pairbook = (answers, begin, table)
    return reader.told(pairbook, is_pairbook(pairbook))
