"""[22]: a desk with each request, refused ones, and undo behind each."""

import unittest
from random import Random

from calls import refused
from odd_values import ODD_VALUES
from placehues.desk import desk, is_request
from placehues.texts import book_text, history_text, machine_text
from placehues.told import told_of
from plain_books import PARITY, SIDES, dull_book, plain_stands, plain_text, plain_reads, some_book, some_history
from plain_groups import FIRST, ODD, SQUARE, THREE
from plain_search import does_take

FIRST_BOOK = ((True,), (0, 1), (0, 0), ((((0, 0, (0, 1), (0, 1)), (0, 1, (0, 1), (0, 1))),) * 2,))
FIRST_MACHINE = (((0,),), (0,))
ALONE = ["undo", "flag", "hues", "text", "answer", "takes", "told", "past"]


def with_text(word, text):
    return word + "".join(["\n " + line for line in text.split("\n")])


def booked(book):
    return with_text("book", book_text(book))


class Plain:
    """A desk on which all is worked out anew for each request, by values and not by texts."""

    def __init__(self):
        self.now = (FIRST_BOOK, FIRST_MACHINE, (1, ()))
        self.past = []

    def deed(self, word, after):
        self.past.append((word, self.now))
        self.now = after
        return "done"

    def ask(self, word, value=None):
        book, machine, history = self.now
        many, changes = history
        flag, hues = plain_stands(book, history)[-1]
        if word == "undo":
            if not self.past:
                return "refused CanNot"
            word, self.now = self.past.pop()
            return word
        if word == "book":
            return self.deed(word, (value, machine, (many, ())))
        if word == "machine":
            return self.deed(word, (book, value, history))
        if word == "history":
            if any([letter > max(book[1]) for _, letter in value[1]]):
                return "refused Unfit"
            return self.deed(word, (book, machine, value))
        if word == "places":
            return self.deed(word, (book, machine, (value, ())))
        if word == "put":
            if value[0] >= many:
                return "refused NoPlace"
            if value[1] > max(book[1]):
                return "refused Unfit"
            return self.deed(word, (book, machine, (many, changes + (value,))))
        if word == "takes" and len(machine[0][0]) != max(book[1]):
            return "refused Unfit"
        told = {
            "flag": lambda: str(flag), "hues": lambda: " ".join(map(str, hues)),
            "text": lambda: " ".join(map(str, plain_text(history))), "answer": lambda: "yes" if book[0][flag] else "no",
            "takes": lambda: "yes" if does_take(machine, plain_reads(plain_text(history))) else "no",
            "told": lambda: " ".join(told_of(book)),
            "past": lambda: "\n".join(["history %d" % many] + ["change %d %d" % own for own in changes]),
        }
        return told[word]()


class Requests(unittest.TestCase):
    def test_at_first(self):
        self.assertEqual(desk(""), [])
        self.assertEqual(
            desk("\n".join(["flag", "hues", "text", "answer", "takes", "told", "past", "undo"])),
            ["0", "0", "0", "yes", "yes", "all blind flag letters nobody side", "history 1", "refused CanNot"])
        self.assertEqual(desk("put 0 1\nhues\ntext\nanswer\nput 0 0\nput 0 1\npast"),
                         ["done", "1", "1", "yes", "done", "done", "history 1\nchange 0 1\nchange 0 0\nchange 0 1"])

    def test_beside_a_plain_desk(self):
        mixed = Random(1)
        seen = {}
        for _ in range(120):
            plain, lines, expected = Plain(), [], []
            for _ in range(mixed.randrange(1, 40)):
                word = mixed.choice(ALONE + ["undo", "undo", "places", "history", "book", "machine"] + ["put"] * 8)
                value, line = None, word
                letters = max(plain.now[0][1])
                if word == "places":
                    value = mixed.randrange(1, 6)
                    line = "places %d" % value
                elif word == "put":
                    value = (mixed.randrange(plain.now[2][0] + 1), mixed.randrange(letters + 2))
                    line = "put %d %d" % value
                elif word == "history":
                    value = some_history(mixed, letters + mixed.randrange(2))
                    line = with_text(word, history_text(value))
                elif word == "book":
                    value = mixed.choice([PARITY, SIDES, some_book(mixed, mixed.choice((1, 2, 3)))])
                    line = booked(value)
                elif word == "machine":
                    value = mixed.choice([ODD, THREE, FIRST, SQUARE])
                    line = with_text(word, machine_text(value))
                lines.append(line)
                expected.append(plain.ask(word, value))
                key = (word, expected[-1][:7] == "refused")
                seen[key] = seen.get(key, 0) + 1
            self.assertEqual(desk("\n".join(lines)), expected, lines)
        for word in ("put", "undo", "history", "takes"):
            self.assertGreater(seen[(word, True)], 5)
            self.assertGreater(seen[(word, False)], 5)
        self.assertEqual(len([word for word, told in seen if not told]), 13)

    def test_undo_behind_each(self):
        asked = "flag\nhues\ntext\nanswer\ntakes\npast\ntold\n"
        begin = booked(SIDES) + "\n" + with_text("machine", machine_text(ODD)) + "\nplaces 3\nput 2 1\nput 0 1\n"
        before = desk(begin + asked[:-1])[-7:]
        for deed in (
            "put 1 1", "put 0 0", "places 1", booked(PARITY), with_text("machine", machine_text(FIRST)),
            with_text("history", "history 2\nchange 1 1"),
        ):
            word = deed.split("\n")[0].split(" ")[0]
            told = desk(begin + deed + "\n" + asked + "undo\n" + asked[:-1])
            self.assertEqual((told[5], told[13]), ("done", word))
            self.assertNotEqual(told[6:13], before)
            self.assertEqual(told[14:], before)
            self.assertEqual(desk(begin + deed + "\nundo\nundo")[-2:], [word, "put"])

    def test_undo_to_the_first(self):
        told = desk(booked(PARITY) + "\nput 0 1\nundo\nundo\nundo\ntext\nanswer\nput 0 1\nundo\nundo")
        self.assertEqual(told, ["done", "done", "put", "book", "refused CanNot", "0", "yes", "done", "put", "refused CanNot"])

    def test_refused_ones_change_nothing(self):
        begin = booked(PARITY) + "\nplaces 2\nput 1 1"
        for request, told in (
            ("put 2 1", "NoPlace"), ("put 9 9", "NoPlace"), ("put 0 2", "Unfit"), ("takes", None),
            (with_text("history", "history 2\nchange 0 2"), "Unfit"), (with_text("history", "history 0"), "BadLine"),
            (with_text("history", "history 2\nchange 2 1"), "Unfit"), (with_text("history", ""), "BadLine"),
            (with_text("machine", "machine 1\nstate 1\nends"), "Unfit"), (with_text("machine", "ends"), "BadLine"),
            (with_text("book", "book 1"), "BadLine"), (booked(PARITY) + "\n ", "BadLine"),
            (booked(PARITY).replace("begin 0 0", "begin 0 1"), "Unfit"), ("book\n  book 1", "BadLine"),
        ):
            replies = desk(begin + "\n" + request + "\nhues\npast\nanswer\nundo\nundo\nundo\nundo")
            if told is not None:
                self.assertEqual(replies[3], "refused " + told)
            self.assertEqual(replies[4:], [
                "0 1", "history 2\nchange 1 1", "yes", "put", "places", "book", "refused CanNot"])

    def test_a_book_takes_the_changes_away(self):
        told = desk("places 4\nput 3 1\n" + booked(PARITY) + "\npast\nflag\nundo\npast")
        self.assertEqual(told, ["done", "done", "done", "history 4", "0", "book", "history 4\nchange 3 1"])
        # a MACHINE does not
        told = desk("put 0 1\n" + with_text("machine", machine_text(ODD)) + "\npast\ntakes\nput 0 0\ntakes")
        self.assertEqual(told, ["done", "done", "history 1\nchange 0 1", "yes", "done", "no"])

    def test_letters_of_the_machine(self):
        told = desk(with_text("machine", machine_text(THREE)) + "\ntakes\n" + booked(dull_book(2, True)) + "\ntakes")
        self.assertEqual(told, ["done", "refused Unfit", "done", "yes"])

    def test_history_with_the_letters_of_the_book(self):
        request = with_text("history", "history 2\nchange 0 2")
        self.assertEqual(desk(request + "\n" + booked(dull_book(2, True)) + "\n" + request + "\ntext"),
                         ["refused Unfit", "done", "done", "2 0"])

    def test_stand(self):
        mixed = Random(2)
        for _ in range(30):
            book = some_book(mixed, 2)
            many, changes = some_history(mixed, 2, 8, 20)
            flag, hues = plain_stands(book, (many, changes))[-1]
            one = booked(book) + "\nplaces %d" % many + "".join(["\nput %d %d" % own for own in changes])
            other = booked(book) + "\n" + with_text("history", history_text((many, changes)))
            for text in (one, other):
                self.assertEqual(desk(text + "\nflag\nhues")[-2:], [str(flag), " ".join(map(str, hues))])


FIT = ALONE + ["places 1", "places 999999999", "put 0 0", "put 999999999 999999999", "book\n ", "machine\n x\n  y\n",
               "history\n history 2\n change 1 1", "book\n \n "]
UNFIT = ["", " ", "\n", "flag ", " flag", "Flag", "flags", "flag 1", "flag\n x", "flag\n ", "flag\n", "undo\n x", "book",
         "book x", "book\n", "machine", "machine\n", "history 2", "history", "book x\n y", "book \n y", "places", "places 0",
         "places 01", "places -1", "places 1 1", "places 1 ", "places  1", "places 1000000000", "places x", "places 1\n x",
         "put", "put 0", "put 0 0 0", "put 00 0", "put 0 01", "put  0 0", "put 0  0", "put 0 0 ", "put x 0", "put -1 0",
         "put 0 +1", "put 1000000000 0", "put 0 1000000000", "put 0 0\n ", "put\t0 0", "put 0\u00b2 1", "put \u0663 1",
         "hue", "tell", "desk", "puts 0 0", "move 1 2", "place 1", "0 0 0", "1 1", "answer yes", "flag\r", "flag\tx", "book\r\n x", "\u00a0flag"]


class Lines(unittest.TestCase):
    def test_one_request(self):
        for text in FIT:
            text = text[:-1] if text.endswith("y\n") else text
            self.assertIs(is_request(text), True, text)
            self.assertEqual(refused(desk, text) if "999999999" not in text else None, None)
        for text in UNFIT:
            self.assertIs(is_request(text), False, text)
        for one in FIT:
            self.assertIs(is_request(one + "\nflag"), False)
            self.assertIs(is_request("flag\n" + one), False)

    def test_any_value(self):
        for thing in ODD_VALUES + [["flag"], ("flag",), b"flag", 7]:
            self.assertIs(is_request(thing), False)

    def test_the_line_of_the_first_that_is_none(self):
        for text in UNFIT:
            if text == "":
                continue
            lines = text.split("\n")
            # what can not stand there is the first line, or an empty one behind a request
            first = 2 if text in ("flag\n",) else 1
            if text == "\n":
                first = 1
            self.assertEqual(refused(desk, text), "BadLine(%d)" % first, repr(text))
            if not lines[0].startswith(" "):
                self.assertEqual(refused(desk, "undo\nbook\n x\n y\n" + text), "BadLine(%d)" % (4 + first), repr(text))

    def test_before_all_else(self):
        self.assertEqual(refused(desk, "put 9 9\nundo\nbook\n x\nbad"), "BadLine(5)")
        self.assertEqual(refused(desk, " x"), "BadLine(1)")
        self.assertEqual(refused(desk, " x\nbad"), "BadLine(1)")
        self.assertEqual(refused(desk, "\n"), "BadLine(1)")
        self.assertEqual(refused(desk, "flag\n\nflag"), "BadLine(2)")
        self.assertEqual(refused(desk, "flag\n x\nbad"), "BadLine(1)")
        self.assertEqual(refused(desk, "flag\nbook\nflag"), "BadLine(2)")
        self.assertEqual(refused(desk, "history\n history 1\n\n"), "BadLine(3)")

    def test_texts(self):
        # one line with a blank alone is the empty text; a second one is a line too many
        self.assertEqual(desk("history\n "), ["refused BadLine"])
        self.assertEqual(desk("history\n history 2\n "), ["refused BadLine"])
        self.assertEqual(desk("history\n history 2"), ["done"])
        self.assertEqual(desk("history\n  history 2"), ["refused BadLine"])

    def test_many_requests(self):
        text = "places 60\n" + "\n".join(["put %d 1\nflag\nundo" % (at % 60) for at in range(2000)])
        self.assertEqual(desk(text), ["done"] + ["done", "0", "put"] * 2000)


if __name__ == "__main__":
    unittest.main()
