"""What the document says of BOOKS, place by place, and many BOOKS to try it on.

Nothing here comes from the package: the tests lay both side by side.
"""

from itertools import product as all_rows
from random import Random

from plain_search import does_take

STILL = (0, 1)
# how many stand, by two
PARITY = ((False, True), (0, 1), (0, 0), tuple([tuple([tuple([
    ((f + h + t) % 2, t, STILL, STILL) for t in (0, 1)]) for h in (0, 1)]) for f in (0, 1)]))
# each HUE tells whether an odd number of letters stands ahead of its place
SAME, SWAP = (0, 1, 2, 3), (1, 0, 3, 2)
SIDES = ((False, True), (0, 0, 1, 1), (0, 0), tuple([tuple([tuple([
    ((f + int(h // 2 != b)) % 2, 2 * b + h % 2, SAME, SWAP if h // 2 != b else SAME)
    for b in (0, 1)]) for h in range(4)]) for f in (0, 1)]))


# whether the latest CHANGE that changed something put a letter
LATEST = ((False, True), (0, 1), (0, 0), tuple([tuple([tuple([
    (f if h == b else b, b, STILL, STILL) for b in (0, 1)]) for h in (0, 1)]) for f in (0, 1)]))


def dull_book(letters, yes):
    """One FLAG, a HUE for each letter and 0, nothing is told."""
    still = tuple(range(letters + 1))
    line = tuple([(0, new, still, still) for new in still])
    return (yes,), still, (0, 0), ((line,) * (letters + 1),)


def going_round(*lengths):
    """A map of the HUES of 0, which it sends about in rounds of these lengths, and of one HUE of 1; and one that leaves."""
    turn = []
    for length in lengths:
        start = len(turn)
        turn += [start + (at + 1) % length for at in range(length)]
    return tuple(turn) + (len(turn),), tuple(range(len(turn) + 1))


def some_going_round(*lengths):
    """A BOOK that answers True as soon as a letter was put, and whose free HUES are sent about in rounds to the left."""
    left, still = going_round(*lengths)
    free = len(still) - 1
    rows = tuple([tuple([((flag, 0, left, still), (1, free, left, still)) for _ in still]) for flag in (0, 1)])
    return (False, True), (0,) * free + (1,), (0, 0), rows


def one_latest(answers):
    """A BOOK with these answers in which no two places have the HUE of the latest at once.

    HUES: 0, 1, 2 of 0, and 3, 4, 5 of the letter: 1 and 4 for the latest, 2 and 5 if it is changed again.
    FLAGS: no CHANGE; the latest stands; it is changed again, none has it; the latest is changed though none has it.
    """
    still, calm = tuple(range(6)), (0, 0, 0, 3, 3, 3)

    def row(flag, hue, letter):
        if flag in (1, 2) and hue % 3 == 1 or flag == 3:
            return (min(flag + 1, 3), 3 * letter + 2, still, still)
        return (1, 3 * letter + 1, calm, calm)
    rows = tuple([tuple([tuple([row(f, h, t) for t in (0, 1)]) for h in range(6)]) for f in range(4)])
    return answers, (0, 0, 0, 1, 1, 1), (0, 0), rows


def some_map(mixed, hues):
    return tuple([mixed.choice([g for g, own in enumerate(hues) if own == letter]) for letter in hues])


def some_book(mixed, letters, going_by="all", flags=3, more_hues=3):
    """A BOOK of so many letters that goes by this word."""
    hues = list(range(letters + 1)) + [mixed.randrange(letters + 1) for _ in range(mixed.randrange(more_hues + 1))]
    mixed.shuffle(hues)
    hues = tuple(hues)
    flags = mixed.randrange(1, flags + 1)
    kept = {}

    def maps(key):
        if going_by == "nobody":
            return (tuple(range(len(hues))),) * 2
        if going_by == "blind":
            return (some_map(mixed, hues),) * 2
        return kept.setdefault(key, (some_map(mixed, hues), some_map(mixed, hues)))

    def row(flag, own, new):
        after = mixed.randrange(flags)
        to = mixed.choice([g for g, letter in enumerate(hues) if letter == new])
        keys = {"side": 0, "letters": (hues[own], new), "flag": (flag, after)}
        left, right = maps(keys.get(going_by, (flag, own, new)))
        return after, to, left, right

    news = range(letters + 1)
    rows = tuple([tuple([tuple([row(f, h, t) for t in news]) for h in range(len(hues))]) for f in range(flags)])
    begin = (mixed.randrange(flags), mixed.choice([g for g, letter in enumerate(hues) if letter == 0]))
    return tuple([mixed.random() < 0.5 for _ in range(flags)]), hues, begin, rows


def some_books(count, seed, going_by="all", letters=(1, 2, 3)):
    mixed = Random(seed)
    return [some_book(mixed, mixed.choice(letters), going_by) for _ in range(count)]


def with_row(rows, flag, hue, letter, row):
    """The rows of a BOOK with another ROW at one place."""
    rows = [[list(line) for line in lines] for lines in rows]
    rows[flag][hue][letter] = row
    return tuple([tuple([tuple(line) for line in lines]) for lines in rows])


def bent(mixed, book, times=1):
    """book with so many ROWS changed, each in one of its four parts."""
    answers, hues, begin, rows = book
    for _ in range(times):
        flag, hue = mixed.randrange(len(answers)), mixed.randrange(len(hues))
        letter = mixed.randrange(max(hues) + 1)
        row = list(rows[flag][hue][letter])
        at = mixed.randrange(4)
        if at == 0:
            row[0] = mixed.randrange(len(answers))
        elif at == 1:
            row[1] = mixed.choice([own for own, of in enumerate(hues) if of == letter])
        else:
            row[at] = some_map(mixed, hues)
        rows = with_row(rows, flag, hue, letter, tuple(row))
    return answers, hues, begin, rows


def following(machine):
    """A BOOK with the STATES as FLAGS: plain HISTORIES are answered as the MACHINE takes."""
    steps, ends = machine
    letters = range(len(steps[0]) + 1)
    still = tuple(letters)
    rows = tuple([
        tuple([tuple([(row[t - 1] if t and not h else f, t, still, still) for t in letters]) for h in letters])
        for f, row in enumerate(steps)
    ])
    return tuple([f in ends for f in range(len(steps))]), still, (0, 0), rows


def some_history(mixed, letters, places=6, changes=12):
    many = mixed.randrange(1, places + 1)
    rows = [(mixed.randrange(many), mixed.randrange(letters + 1)) for _ in range(mixed.randrange(changes + 1))]
    return many, tuple(rows)


def plain_turned(book, stand, change):
    """Each place is looked at by itself."""
    answers, hues, begin, rows = book
    place, letter = change
    flag, own, left, right = rows[stand[0]][stand[1][place]][letter]
    after = []
    for at, hue in enumerate(stand[1]):
        if at < place:
            after.append(left[hue])
        elif at > place:
            after.append(right[hue])
        else:
            after.append(own)
    return flag, tuple(after)


def plain_stands(book, history):
    """The STANDS ahead of the first CHANGE and behind each."""
    stands = [(book[2][0], (book[2][1],) * history[0])]
    for change in history[1]:
        stands.append(plain_turned(book, stands[-1], change))
    return stands


def plain_answer(book, history):
    return book[0][plain_stands(book, history)[-1][0]]


def plain_text(history):
    return tuple([([0] + [letter for at, letter in history[1] if at == place])[-1] for place in range(history[0])])


def plain_reads(text):
    return tuple([letter for letter in text if letter != 0])


def plain_parts(book, machine, history):
    return plain_answer(book, history) != does_take(machine, plain_reads(plain_text(history)))


def all_histories(letters, many, longest):
    """All HISTORIES on so many places with so many CHANGES at most."""
    changes = [(place, letter) for place in range(many) for letter in range(letters + 1)]
    for length in range(longest + 1):
        for rows in all_rows(changes, repeat=length):
            yield many, rows


def all_texts(letters, longest):
    for many in range(1, longest + 1):
        yield from all_rows(range(letters + 1), repeat=many)
