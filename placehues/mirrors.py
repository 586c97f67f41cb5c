"""BOOKS, MACHINES and HISTORIES from the other side, under other numbers, folded, and paired."""

from placehues.books import letters_of
from placehues.errors import TooMuch, Unfit
from placehues.kinds import as_tuples, has_numbers_from, is_tuple_of
from placehues.machines import ends_of, least, letters_in, walked_machine
from placehues.pairing import side_by_side
from placehues.walks import Walk

MOST_STATES = 200


def mirrored_history(history):
    """history with each place told from the other end."""
    many, changes = history
    return many, tuple([(many - 1 - place, letter) for place, letter in changes])


def mirrored(book):
    """book with the two maps of each ROW exchanged."""
    answers, hues, begin, rows = as_tuples(book)
    return answers, hues, begin, tuple([
        tuple([tuple([(flag, own, right, left) for flag, own, left, right in line]) for line in lines])
        for lines in rows
    ])


def mirrored_machine(machine):
    """The least MACHINE that mirrors machine; TooMuch() if it has more than 200 STATES."""
    small = least(machine)
    steps, ends = small[0], ends_of(small)
    # what is found are the STATES from which the WORD read so far, backwards, leads to an end; as each STATE is
    # come to, no two such are alike: so the MACHINE is the least one
    walk = Walk(tuple([state in ends for state in range(len(steps))]))
    while not walk.is_done():
        leads = walk.here()
        walk.go_on([tuple([leads[row[letter]] for row in steps]) for letter in range(letters_in(small))])
        if len(walk.found) > MOST_STATES:
            raise TooMuch()
    return walked_machine(walk, [leads[0] for leads in walk.found])


def renamed(book, flags, hues):
    """book with its FLAGS and HUES under other numbers; Unfit() if flags are not all FLAGS, then if hues are not so."""
    answers, letters, begin, rows = as_tuples(book)
    flag_places = _places_of(flags, 0, len(answers))
    hue_places = _places_of(hues, 0, len(letters))

    lines = tuple([
        tuple([tuple([_renamed_row(row, (flags, hues, hue_places)) for row in rows[flag][hue]]) for hue in hue_places])
        for flag in flag_places
    ])
    return (
        tuple([answers[flag] for flag in flag_places]),
        tuple([letters[hue] for hue in hue_places]),
        (flags[begin[0]], hues[begin[1]]),
        lines,
    )


def _renamed_row(row, names):
    """A ROW under other numbers of FLAGS and HUES."""
    flags, hues, hue_places = names
    flag, own, left, right = row
    maps = [tuple([hues[old[place]] for place in hue_places]) for old in (left, right)]
    return flags[flag], hues[own], maps[0], maps[1]


def _places_of(numbers, low, many):
    """For each of so many numbers from low its place in numbers; Unfit() if these are not all of them, each once."""
    if sorted(numbers) != list(range(low, low + many)):
        raise Unfit()
    places = {number: place for place, number in enumerate(numbers)}
    return [places[number] for number in range(low, low + many)]


def relettered(machine, letters):
    """machine with its letters under other numbers; Unfit() if letters are not all its letters, each once."""
    steps, ends = machine
    places = _places_of(letters, 1, letters_in(machine))
    return tuple([tuple([row[place] for place in places]) for row in steps]), tuple(ends)


def relettered_book(book, letters):
    """book with its letters under other numbers; Unfit() if letters are not all its letters, each once."""
    answers, hues, begin, rows = as_tuples(book)
    places = _places_of(letters, 1, letters_of(book))
    new = [0] + list(letters)
    lines = tuple([
        tuple([(line[0],) + tuple([line[place + 1] for place in places]) for line in own]) for own in rows
    ])
    return answers, tuple([new[letter] for letter in hues]), begin, lines


def is_folding(book, thing):
    """Whether thing is a FOLDING of book."""
    answers, letters, _, rows = as_tuples(book)
    if not is_tuple_of(thing, 2) or not _are_lots(thing[0], answers) or not _are_lots(thing[1], letters):
        return False
    return _folded_rows(rows, thing) is not None


def _are_lots(thing, told):
    """Whether thing has a lot for each of told, numbered as they first come, and those of one lot are told alike."""
    if not has_numbers_from(thing, 0) or len(thing) != len(told):
        return False
    return tuple(_numbered(thing)) == thing and len(set(list(zip(thing, told)))) == len(set(thing))


def _numbered(values):
    """The list with for each of values its number, numbered as they first come."""
    numbers = {}
    return [numbers.setdefault(value, len(numbers)) for value in values]


def _folded_rows(rows, lots):
    """For each lot of FLAGS, lot of HUES and letter the ROW that leads from lot to lots; None if unlike ones do."""
    flags, hues = lots
    found = {}
    for flag, lines in zip(flags, rows):
        for hue, line in zip(hues, lines):
            for letter, row in enumerate(line):
                told = _folded_row(row, lots)
                if told is None or found.setdefault((flag, hue, letter), told) != told:
                    return None
    return found


def _folded_row(row, lots):
    """A ROW with the lots for FLAGS and HUES; None if a map leads HUES of one lot to unlike ones."""
    flags, hues = lots
    flag, own, left, right = row
    maps = [_folded_map(old, hues) for old in (left, right)]
    return None if None in maps else (flags[flag], hues[own], maps[0], maps[1])


def _folded_map(old, hues):
    """A map with the lots for HUES; None if it leads HUES of one lot to unlike ones."""
    leads = {}
    for lot, after in zip(hues, old):
        if leads.setdefault(lot, hues[after]) != hues[after]:
            return None
    # lots are numbered as they first come, so they stand in their order
    return tuple(list(leads.values()))


def folding(book):
    """The coarsest FOLDING of book."""
    answers, letters, _, rows = as_tuples(book)
    lots, many = (_numbered(answers), _numbered(letters)), 0
    while len(set(lots[0])) + len(set(lots[1])) > many:
        many = len(set(lots[0])) + len(set(lots[1]))
        lots = _finer(rows, lots)
    return tuple(lots[0]), tuple(lots[1])


def _finer(rows, lots):
    """The lots parted where, to what ROWS lead and to where they put a HUE, unlike lots stand."""
    flags, hues = lots
    told = [[[_row_by_lots(row, lots) for row in line] for line in lines] for lines in rows]
    by_flag = [(flag, as_tuples(lines)) for flag, lines in zip(flags, told)]
    by_hue = []
    for hue, lot in enumerate(hues):
        led = [row for lines in told for row in lines[hue]]
        put = [(row[2][hue], row[3][hue]) for lines in told for line in lines for row in line]
        by_hue.append((lot, tuple(led), tuple(put)))
    return _numbered(by_flag), _numbered(by_hue)


def _row_by_lots(row, lots):
    """A ROW with the lots of the FLAG and of all HUES that it tells."""
    flags, hues = lots
    flag, own, left, right = row
    return flags[flag], hues[own], tuple([hues[hue] for hue in left]), tuple([hues[hue] for hue in right])


def folded(book, lots):
    """book folded by lots; Unfit() if they are no FOLDING of it."""
    own = as_tuples(lots)
    if not is_folding(book, own):
        raise Unfit()
    answers, letters, begin, rows = as_tuples(book)
    flags, hues = own
    told = _folded_rows(rows, own)
    answer_of, letter_of = dict(zip(flags, answers)), dict(zip(hues, letters))
    lines = tuple([
        tuple([tuple([told[(flag, hue, letter)] for letter in range(letters_of(book) + 1)]) for hue in letter_of])
        for flag in answer_of
    ])
    return tuple(list(answer_of.values())), tuple(list(letter_of.values())), (flags[begin[0]], hues[begin[1]]), lines


def paired(one, other, word):
    """The BOOK that turns as both do, and answers by word; Unfit() if they have not as many letters."""
    if letters_of(one) != letters_of(other):
        raise Unfit()
    if word == "and":
        return side_by_side(one, other, lambda own, told: own and told)
    if word == "or":
        return side_by_side(one, other, lambda own, told: own or told)
    return side_by_side(one, other, lambda own, told: own != told)
