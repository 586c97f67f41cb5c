"""[21]: MACHINES, HISTORIES, BOOKS and PAIRBOOKS as texts, there and back, and bent in one place."""

import re
import unittest
from random import Random

from calls import refused
from placehues.books import is_book
from placehues.made import hue_book
from placehues.machines import is_machine
from placehues.pairbooks import is_pairbook
from placehues.texts import (
    book_read, book_text, history_read, history_text, machine_read, machine_text, pairbook_read, pairbook_text,
)
from placehues.words import is_history
from plain_books import PARITY, SIDES, some_books, some_history
from plain_groups import BIG, FIRST, ODD, RING, SQUARE, THREE
from plain_pairs import some_pairbook
from plain_search import some_machines

NUMBER = r"(?:0|[1-9][0-9]*)"


def numbers(line):
    return tuple([int(own) for own in re.findall(r"(?<![a-z0-9])[0-9]+", line)])


class Plain:
    """Reads lines one by one: what is told, or the first line that can not stand there, or that it is unfit."""

    def __init__(self, text):
        self.lines = text.split("\n") if text else []
        self.at = 0

    def line(self, pattern):
        self.at += 1
        if self.at > len(self.lines) or not re.fullmatch(pattern, self.lines[self.at - 1]):
            raise KeyError(self.at)
        return self.lines[self.at - 1]

    def some(self, name, many):
        return numbers(self.line(name + (" " + NUMBER) * many))

    def head(self, name):
        return numbers(self.line(name + " [1-9][0-9]*"))[0]

    def machine(self):
        letters = self.head("machine")
        steps = [self.some("state", letters)]
        while self.at < len(self.lines) and self.lines[self.at].split(" ")[0] == "state":
            steps.append(self.some("state", letters))
        ends = numbers(self.line("ends(?: %s)*" % NUMBER))
        if list(ends) != sorted(set(ends)):
            raise KeyError(self.at)
        return tuple(steps), ends

    def history(self):
        many, changes = self.head("history"), []
        while self.at < len(self.lines):
            changes.append(self.some("change", 2))
        return many, tuple(changes)

    def answers(self):
        return tuple([own == "yes" for own in self.line("answers(?: (?:yes|no))+").split(" ")[1:]])

    def book(self):
        letters, answers = self.head("book"), self.answers()
        hues = numbers(self.line("hues(?: %s)+" % NUMBER))
        begin, rows = self.some("begin", 2), []
        for _ in answers:
            lines = []
            for _ in hues:
                line = []
                for _ in range(letters + 1):
                    maps = (" " + NUMBER) * len(hues)
                    own = numbers(self.line("row %s %s left%s right%s" % (NUMBER, NUMBER, maps, maps)))
                    line.append(own[:2] + (own[2:2 + len(hues)], own[2 + len(hues):]))
                lines.append(tuple(line))
            rows.append(tuple(lines))
        return answers, hues, begin, tuple(rows)

    def pairbook(self):
        letters, answers = self.head("pairbook"), self.answers()
        (begin,) = self.some("begin", 1)
        table = tuple([tuple([self.some("row", len(answers)) for _ in range(letters + 1)]) for _ in answers])
        return answers, begin, table

    def told(self, kind):
        """The outcome: a value, BadLine(..) or Unfit."""
        try:
            value = getattr(self, kind)()
            if self.at < len(self.lines):
                raise KeyError(self.at + 1)
        except KeyError as error:
            return "BadLine(%d)" % error.args[0]
        fit = {"machine": is_machine, "history": is_history, "book": is_book, "pairbook": is_pairbook}[kind]
        return value if fit(value) else "Unfit"


READERS = {"machine": machine_read, "history": history_read, "book": book_read, "pairbook": pairbook_read}
WRITERS = {"machine": machine_text, "history": history_text, "book": book_text, "pairbook": pairbook_text}


def values():
    mixed = Random(1)
    rows = [("machine", own) for own in [ODD, FIRST, THREE, SQUARE, RING, BIG, (((0,),), ()), (((0, 0, 0),), (0,))]]
    rows += [("machine", own) for own in some_machines(20, 3, 2, 81)]
    rows += [("history", some_history(mixed, 3, 20, 30)) for _ in range(30)] + [("history", (1, ()))]
    rows += [("history", (12345678901, ((12345678900, 123456789012),)))]
    rows += [("book", own) for own in some_books(20, 2) + [PARITY, SIDES, hue_book(THREE), hue_book(SQUARE)]]
    rows += [("pairbook", some_pairbook(mixed, mixed.randrange(1, 6), mixed.choice((1, 2, 3)))) for _ in range(20)]
    return rows


def bendings(mixed, text):
    """Texts that are nearly text: one line, word or sign changed, too much or left out; in a few lines of long ones."""
    lines = text.split("\n")
    yield ""
    yield text + "\n"
    yield "\n" + text
    yield text.upper()
    yield text.replace("\n", "\n\n", 1)
    yield text.replace("\n", " ", 1)
    places = [at for at in range(len(lines)) if at < 5 or at == len(lines) - 1 or mixed.random() < 6 / len(lines)]
    for at, line in [(at, lines[at]) for at in places]:
        def with_line(*others):
            return "\n".join(lines[:at] + list(others) + lines[at + 1:])
        yield "\n".join(lines[:at])
        yield with_line()
        yield with_line(line, line)
        yield with_line(line, "")
        yield with_line("", line)
        for other in (" " + line, line + " ", line + " 0", line + " 1", line + " yes", line + " -1", line + "0", line[1:]):
            yield with_line(other)
        words = line.split(" ")
        for place, word in enumerate(words):
            def with_word(*others):
                return with_line(" ".join(words[:place] + list(others) + words[place + 1:]))
            yield with_word()
            yield with_word(word, word)
            for other in ("", "0", "1", "2", "9", "99", "0" + word, "+1", "-0", "1.0", "1_0", "x", "yes", "no", "left",
                          "right", "state", "ends", "row", "change", "machine", "book", "pairbook", "history"):
                yield with_word(other)


class ThereAndBack(unittest.TestCase):
    def test_all_kinds(self):
        for kind, value in values():
            text = WRITERS[kind](value)
            self.assertEqual(READERS[kind](text), value)
            self.assertEqual(Plain(text).told(kind), value)
            self.assertEqual(WRITERS[kind](READERS[kind](text)), text)

    def test_by_hand(self):
        self.assertEqual(machine_text(FIRST), "machine 2\nstate 1 2\nstate 1 1\nstate 2 2\nends 1")
        self.assertEqual(machine_text((((0,),), ())), "machine 1\nstate 0\nends")
        self.assertEqual(history_text((12, ())), "history 12")
        self.assertEqual(history_text((2, ((1, 3), (0, 0)))), "history 2\nchange 1 3\nchange 0 0")
        self.assertEqual(
            pairbook_text(((True,), 0, (((0,), (0,), (0,)),))), "pairbook 2\nanswers yes\nbegin 0\nrow 0\nrow 0\nrow 0")
        dull = ((True,), (1, 0), (0, 1), ((((0, 1, (0, 1), (0, 1)), (0, 0, (0, 1), (0, 1))),) * 2,))
        self.assertEqual(book_text(dull), "\n".join(
            ["book 1", "answers yes", "hues 1 0", "begin 0 1"]
            + ["row 0 1 left 0 1 right 0 1", "row 0 0 left 0 1 right 0 1"] * 2))

    def test_lists(self):
        self.assertEqual(machine_text([[[0, 0]], []]), "machine 2\nstate 0 0\nends")
        self.assertEqual(history_text([1, [[0, 1]]]), "history 1\nchange 0 1")


class Bent(unittest.TestCase):
    def test_each_bending(self):
        mixed = Random(3)
        seen = {}
        for kind, value in values():
            texts = list(dict.fromkeys(bendings(mixed, WRITERS[kind](value))))
            if len(texts) > 400:
                texts = mixed.sample(texts, 400)
            for text in texts:
                expected = Plain(text).told(kind)
                if isinstance(expected, str):
                    self.assertEqual(refused(READERS[kind], text), expected, text)
                else:
                    self.assertEqual(READERS[kind](text), expected, text)
                key = (kind, expected[:5] if isinstance(expected, str) else "read")
                seen[key] = seen.get(key, 0) + 1
        self.assertEqual(len(seen), 12)
        self.assertGreater(min(seen.values()), 20, seen)

    def test_one_kind_for_another(self):
        for kind, value in values()[::7]:
            for other, reader in READERS.items():
                if other != kind:
                    self.assertEqual(refused(reader, WRITERS[kind](value)), "BadLine(1)")

    def test_lines_that_are_wanting(self):
        self.assertEqual([refused(own, "") for own in READERS.values()], ["BadLine(1)"] * 4)
        self.assertEqual(refused(machine_read, "machine 1"), "BadLine(2)")
        self.assertEqual(refused(machine_read, "machine 1\nstate 0"), "BadLine(3)")
        self.assertEqual(refused(machine_read, "machine 1\nends"), "BadLine(2)")
        self.assertEqual(refused(book_read, "book 1\nanswers yes\nhues 0 1\nbegin 0 0"), "BadLine(5)")
        self.assertEqual(refused(book_read, "book 1\nanswers yes\nhues 0 1"), "BadLine(4)")
        self.assertEqual(refused(pairbook_read, "pairbook 1\nanswers yes\nbegin 0\nrow 0"), "BadLine(5)")

    def test_nothing_at_all_of_them(self):
        self.assertEqual(refused(book_read, "book 1\nanswers\nhues 0 1"), "BadLine(2)")
        self.assertEqual(refused(book_read, "book 1\nanswers yes\nhues"), "BadLine(3)")
        self.assertEqual(refused(pairbook_read, "pairbook 1\nanswers\nbegin 0"), "BadLine(2)")
        for text, reader in (("machine 0", machine_read), ("history 0", history_read), ("book 0", book_read)):
            self.assertEqual(refused(reader, text), "BadLine(1)")
        self.assertEqual(refused(pairbook_read, "pairbook 0\nanswers yes\nbegin 0\nrow 0"), "BadLine(1)")

    def test_what_is_named_is_not_asked_there(self):
        self.assertEqual(refused(machine_read, "machine 1\nstate 7\nends 9"), "Unfit")
        self.assertEqual(refused(machine_read, "machine 1\nstate 7\nends 9 9"), "BadLine(3)")
        self.assertEqual(refused(history_read, "history 1\nchange 1 1\nchange 0"), "BadLine(3)")
        self.assertEqual(refused(history_read, "history 1\nchange 1 1\nchange 0 0"), "Unfit")
        rows = "\nrow 0 0 left 0 1 right 0 1\nrow 0 1 left 0 1 right 0 1" * 2
        head = "book 1\nanswers yes\nhues 0 1\nbegin 0 0"
        self.assertEqual(refused(book_read, head + rows), None)
        self.assertEqual(refused(book_read, head.replace("0 1", "0 5") + rows), "Unfit")
        self.assertEqual(refused(book_read, head.replace("begin 0 0", "begin 9 9") + rows), "Unfit")
        self.assertEqual(refused(book_read, head + rows.replace("left 0 1", "left 7 7")), "Unfit")
        self.assertEqual(refused(book_read, head + rows + "\n"), "BadLine(9)")
        self.assertEqual(refused(book_read, head.replace("book 1", "book 2") + rows), "BadLine(9)")
        two = rows[:len(rows) // 2] + "\nrow 0 1 left 0 1 right 0 1"
        self.assertEqual(refused(book_read, head.replace("book 1", "book 2") + two * 2), "Unfit")
        self.assertEqual(refused(pairbook_read, "pairbook 1\nanswers yes\nbegin 3\nrow 0\nrow 7"), "Unfit")

    def test_figures(self):
        for word in ("00", "01", "007", "-1", "+1", "1.", "", "one", "0x1", "1e1"):
            self.assertEqual(refused(history_read, "history " + word), "BadLine(1)")
            self.assertEqual(refused(history_read, "history 2\nchange " + word + " 1"), "BadLine(2)")
        self.assertEqual(history_read("history 999999999999"), (999999999999, ()))
        # as many letters as no line has room for, and more rows than there are lines
        self.assertEqual(refused(machine_read, "machine 999999999999\nstate 0\nends"), "BadLine(2)")
        self.assertEqual(refused(book_read, "book 999999999999\nanswers no\nhues 0\nbegin 0 0"), "BadLine(5)")
        self.assertEqual(refused(pairbook_read, "pairbook 999999999999\nanswers no\nbegin 0"), "BadLine(4)")

    def test_long_texts(self):
        text = "history 60" + "\nchange 1 1" * 1199
        self.assertEqual(len(history_read(text)[1]), 1199)
        self.assertEqual(refused(history_read, text[:-2]), "BadLine(1200)")


if __name__ == "__main__":
    unittest.main()
