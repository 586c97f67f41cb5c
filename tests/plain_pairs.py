"""What the document says of PAIRBOOKS: the TINTS of each two of the places and the ends, one by one."""

from itertools import permutations
from itertools import product as all_rows

from plain_books import plain_reads, plain_text
from plain_search import does_take


def plain_tints(pairbook, history):
    """The TINT of each two: -1 stands for the end ahead of all places, many for that behind them."""
    _, begin, table = pairbook
    many, changes = history
    tints = {(x, y): begin for x in range(-1, many) for y in range(x + 1, many + 1)}
    for place, letter in changes:
        old = dict(tints)
        for x in range(-1, place):
            for y in range(place + 1, many + 1):
                tints[(x, y)] = table[old[(x, place)]][letter][old[(place, y)]]
    return tints


def plain_pair_answer(pairbook, history):
    return pairbook[0][plain_tints(pairbook, history)[(-1, history[0])]]


def plain_pair_parts(pairbook, machine, history):
    return plain_pair_answer(pairbook, history) != does_take(machine, plain_reads(plain_text(history)))


def orders(letters, changes):
    """All HISTORIES with so many CHANGES that change each place once."""
    for word in all_rows(range(letters + 1), repeat=changes):
        for order in permutations(range(changes)):
            yield max(1, changes), tuple([(place, word[place]) for place in order])


def together(one, step, letters):
    """The least set with one of what comes of a letter between two of it, step telling what."""
    found = {one}
    while True:
        more = found | {step(x, k, y) for x in found for y in found for k in range(letters + 1)}
        if more == found:
            return found
        found = more


def some_pairbook(mixed, tints, letters):
    every = range(tints)
    table = tuple([
        tuple([tuple([mixed.randrange(tints) for _ in every]) for _ in range(letters + 1)]) for _ in every
    ])
    return tuple([mixed.random() < 0.5 for _ in every]), mixed.randrange(tints), table


def split(mixed, pairbook, more):
    """pairbook with so many TINTS more, each doing what one of its own does; in another order."""
    answers, begin, table = pairbook
    owners = list(range(len(answers))) + [mixed.randrange(len(answers)) for _ in range(more)]
    mixed.shuffle(owners)
    every = range(len(owners))

    def one_of(tint):
        return mixed.choice([own for own in every if owners[own] == tint])
    rows = tuple([
        tuple([tuple([one_of(table[owners[x]][letter][owners[y]]) for y in every]) for letter in range(len(table[0]))])
        for x in every
    ])
    return tuple([answers[own] for own in owners]), one_of(begin), rows


def bent_pairbook(mixed, pairbook):
    """pairbook with one place of its table changed."""
    answers, begin, table = pairbook
    rows = [[list(line) for line in lines] for lines in table]
    rows[mixed.randrange(len(rows))][mixed.randrange(len(rows[0]))][mixed.randrange(len(rows))] = \
        mixed.randrange(len(rows))
    return answers, begin, tuple([tuple([tuple(line) for line in lines]) for lines in rows])
