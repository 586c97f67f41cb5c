"""BOOKS beside which letters are only put, or taken back in reverse order."""

from placehues.doings import commutes, crossed, doing_by, least_surroundings
from placehues.errors import CanNot, Unfit
from placehues.kinds import has_numbers_between, is_tuple_of
from placehues.machines import least, letters_in, parting_from, takes
from placehues.partings import match_letters, one_that_parts
from placehues.products import Products
from placehues.told import goes_by
from placehues.words import plain, puts_only, takes_back


def swap_of(machine):
    """The SWAP of the least letters that do not commute; CanNot() if all DOINGS commute."""
    one, other = crossed(machine)
    small = least(machine)
    ahead, behind = least_surroundings(small, doing_by(small, (one, other)), doing_by(small, (other, one)))
    return ahead, one, other, behind


def is_swap(machine, thing):
    """Whether thing is a SWAP."""
    letters = letters_in(machine)
    if not is_tuple_of(thing, 4) or not has_numbers_between(thing[1:3], 1, letters):
        return False
    if not all([has_numbers_between(word, 1, letters) for word in (thing[0], thing[3])]):
        return False
    ahead, one, other, behind = thing
    return takes(machine, ahead + (one, other) + behind) != takes(machine, ahead + (other, one) + behind)


def put_word(history):
    """The WORD of the letters put, in the order of the CHANGES; Unfit() if history does not only put."""
    if not puts_only(history):
        raise Unfit()
    return tuple([letter for _, letter in history[1]])


def put_stack(history):
    """The tuple of the pairs (place, letter) that stand, the first put ahead; Unfit() if it does not take back."""
    if not takes_back(history):
        raise Unfit()
    stack = []
    for place, letter in history[1]:
        if letter > 0:
            stack.append((place, letter))
        else:
            stack.pop()
    return tuple(stack)


def put_flags(machine):
    """The fewest FLAGS of a BOOK that goes by "nobody" and is right for puts; CanNot() if there is none."""
    return len(_commuting(machine).doings)


def _commuting(machine):
    """The Products of machine; CanNot() if not all DOINGS commute."""
    if not commutes(machine):
        raise CanNot()
    return Products(machine)


def put_book(machine):
    """A BOOK with one HUE for 0 and each letter, right for puts; CanNot() if there is none.

    Its FLAGS are the DOINGS of what was put.
    """
    products = _commuting(machine)

    def led(flag, hue, letter):
        # a place that is not free is never asked
        return products.times(flag, products.letters[letter if hue == 0 else 0]), letter

    return _book_of(products, tuple(range(len(products.letters))), led)


def _book_of(products, hues, led):
    """The BOOK that goes by "nobody", with the DOINGS as FLAGS, and led telling the FLAG and HUE of each ROW."""
    still = tuple(range(len(hues)))
    rows = []
    for flag in range(len(products.doings)):
        lines = []
        for hue in still:
            told = [led(flag, hue, letter) for letter in range(len(products.letters))]
            lines.append(tuple([(after, own, still, still) for after, own in told]))
        rows.append(tuple(lines))
    answers = tuple([products.is_taken(one) for one in range(len(products.doings))])
    return answers, hues, (products.one, 0), tuple(rows)


def back_book(machine):
    """A BOOK that goes by "nobody" and is right for taking back; CanNot() if there is none.

    Its FLAGS are the DOINGS of what stands; the HUE of a letter tells which of
    the FLAGS that this letter leads to one FLAG was there ahead of it.
    """
    products = _commuting(machine)
    sources = [_sources_of(products, letter) for letter in range(1, len(products.letters))]
    hues, places = [0], [0]
    starts = [0]
    for letter, own in enumerate(sources, start=1):
        starts.append(len(hues))
        for place in range(max([len(ahead) for ahead in own])):
            hues.append(letter)
            places.append(place)

    def led(flag, hue, letter):
        if hue == 0 and letter > 0:
            after = products.times(flag, products.letters[letter])
            return after, starts[letter] + sources[letter - 1][after].index(flag)
        if hue == 0 or letter > 0:
            return flag, starts[letter]
        # a FLAG that is not come to with this HUE is never asked
        ahead = sources[hues[hue] - 1][flag]
        before = ahead[places[hue]] if places[hue] < len(ahead) else flag
        return before, 0

    return _book_of(products, tuple(hues), led)


def _sources_of(products, letter):
    """The list with for each DOING the list of those that letter leads to it."""
    sources = [[] for _ in products.doings]
    for one in range(len(products.doings)):
        sources[products.times(one, products.letters[letter])].append(one)
    return sources


def is_put_right(book, machine):
    """Whether book, which goes by "nobody", is right for puts."""
    return _put_parting(book, machine) is None


def put_parting(book, machine):
    """A HISTORY that only puts and parts both; CanNot() if there is none."""
    history = _put_parting(book, machine)
    if history is None:
        raise CanNot()
    return history


def _put_parting(book, machine):
    """What put_parting returns; None if there is none."""
    match_letters(book, machine)
    if not goes_by(book, "nobody"):
        raise Unfit()
    does_commute = commutes(machine)
    # the FLAG hangs on the WORD of the letters put alone, and the HISTORY that is plain for it puts them so
    word = parting_from(_put_machine(book), machine, (book[2][0], 0))
    if word is not None:
        return plain(word)
    if does_commute:
        return None
    ahead, one, other, behind = swap_of(machine)
    many, changes = plain(ahead + (one, other) + behind)
    first, second = len(ahead), len(ahead) + 1
    exchanged = {first: second, second: first}
    crossing = [(exchanged.get(place, place), letter) for place, letter in changes]
    return one_that_parts(book, machine, [(many, changes), (many, tuple(crossing))])


def _put_machine(book):
    """The MACHINE whose STATES are the FLAGS, to which letters lead that are put at free places."""
    answers, _, (_, free), rows = book
    steps = tuple([tuple([row[0] for row in lines[free][1:]]) for lines in rows])
    return steps, tuple([flag for flag, own in enumerate(answers) if own])
