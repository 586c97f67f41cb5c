"""A desk that holds a BOOK, a STAND of it, a MACHINE and a HISTORY, and works requests."""

from placehues.books import begun, letters_of, stand_behind, text_of, turned
from placehues.errors import BadLine, CanNot, NoPlace, Unfit
from placehues.machines import letters_in, takes
from placehues.texts import book_read, history_read, history_text, is_figures, machine_read
from placehues.told import told_of
from placehues.words import reads

MOST_FIGURES = 9
WITH_TEXT = ("book", "machine", "history")
ALONE = ("undo", "flag", "hues", "text", "answer", "takes", "told", "past")


class Held:
    """A BOOK, a MACHINE and a HISTORY, and the STAND behind this."""

    def __init__(self, book, machine, history, stand):
        self.book = book
        self.machine = machine
        self.history = history
        self.standing = stand


class Desk:
    """What is held, and what was held ahead of each deed that is not taken back."""

    def __init__(self):
        keep = (0, 1)
        line = ((0, 0, keep, keep), (0, 1, keep, keep))
        book = ((True,), keep, (0, 0), ((line, line),))
        self.held = Held(book, (((0,),), (0,)), (1, ()), begun(book, 1))
        self.deeds = []

    def reply(self, words, text):
        """The reply to a request of these words and with this text."""
        if words[0] == "undo":
            return self.undo()
        if words[0] in WITH_TEXT or words[0] in ("places", "put"):
            held = self.behind_text(words[0], text) if words[0] in WITH_TEXT else self.behind_deed(words)
            self.deeds.append((words[0], self.held))
            self.held = held
            return "done"
        return answered(self.held, words[0])

    def undo(self):
        """Takes the last deed back, and returns the word with which its request begins; CanNot() if there is none."""
        if len(self.deeds) == 0:
            raise CanNot()
        word, held = self.deeds.pop()
        self.held = held
        return word

    def behind_text(self, word, text):
        """What is held behind a request with a text."""
        held = self.held
        if word == "machine":
            return Held(held.book, machine_read(text), held.history, held.standing)
        if word == "book":
            book, many = book_read(text), held.history[0]
            return Held(book, held.machine, (many, ()), begun(book, many))
        history = history_read(text)
        # a HISTORY with a letter that the BOOK has not is Unfit()
        return Held(held.book, held.machine, history, stand_behind(held.book, history))

    def behind_deed(self, words):
        """What is held behind the request for other places, or for a CHANGE."""
        held, numbers = self.held, [int(word) for word in words[1:]]
        if words[0] == "places":
            many = numbers[0]
            return Held(held.book, held.machine, (many, ()), begun(held.book, many))
        many, changes = held.history
        place, letter = numbers
        # NoPlace(place), then Unfit() if the BOOK has not the letter
        stand = turned(held.book, held.standing, (place, letter))
        return Held(held.book, held.machine, (many, changes + ((place, letter),)), stand)


def answered(held, word):
    """The reply to a request that is no deed."""
    flag, hues = held.standing
    if word == "flag":
        return str(flag)
    if word == "hues":
        return " ".join([str(hue) for hue in hues])
    if word == "text":
        return " ".join([str(letter) for letter in text_of(held.book, held.standing)])
    if word == "told":
        return " ".join(told_of(held.book))
    if word == "past":
        return history_text(held.history)
    if word == "answer":
        return yes_or_no(held.book[0][flag])
    if letters_in(held.machine) != letters_of(held.book):
        raise Unfit()
    return yes_or_no(takes(held.machine, reads(text_of(held.book, held.standing))))


def yes_or_no(told):
    """The word for True or False."""
    return "yes" if told else "no"


def refusable(desk_now, words, text):
    """The reply to a request, or that it is refused."""
    try:
        return desk_now.reply(words, text)
    except BadLine:
        return "refused BadLine"
    except NoPlace:
        return "refused NoPlace"
    except CanNot:
        return "refused CanNot"
    except Unfit:
        return "refused Unfit"


def parted(text):
    """The list of the (line, words, text) of the requests in text; BadLine(line) for the first that is none.

    line is where the request begins, words are those of this line; text is None if no line with a blank follows.
    """
    lines = text.split("\n") if text != "" else []
    found = []
    for number, line in enumerate(lines, start=1):
        if line[:1] != " ":
            found.append((number, line.split(" "), []))
        elif len(found) == 0:
            raise BadLine(number)
        else:
            found[-1][2].append(line[1:])
    for number, words, own in found:
        if not is_fit(words, len(own) > 0):
            raise BadLine(number)
    return [(number, words, "\n".join(own)) for number, words, own in found]


def is_fit(words, has_text):
    """Whether a line of these words, with a text or without, is a request."""
    numbers = words[1:]
    if words[0] in WITH_TEXT or words[0] in ALONE:
        return len(numbers) == 0 and has_text == (words[0] in WITH_TEXT)
    if has_text or not all([is_figures(own) and len(own) <= MOST_FIGURES for own in numbers]):
        return False
    if words[0] == "places":
        return len(numbers) == 1 and numbers[0] != "0"
    return words[0] == "put" and len(numbers) == 2


def desk(text):
    """The list of the replies to the requests in text; BadLine(line) for the first that is none, before all else."""
    own = Desk()
    return [refusable(own, words, told) for _, words, told in parted(text)]


def is_request(thing):
    """Whether thing is a string that is one request."""
    if not isinstance(thing, str):
        return False
    try:
        return len(parted(thing)) == 1
    except BadLine:
        return False
