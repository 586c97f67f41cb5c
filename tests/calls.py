"""Calls of one function in all the ways in which the document lets it be called."""

import copy
import importlib
from random import Random

INTERFACE = {
    "words": [
        "is_word(thing)", "is_text(thing)", "is_history(thing)", "reads(text)", "changed(text, change)",
        "text_behind(history)", "texts_along(history)", "plain(word)", "beside(one, other)",
        "puts_only(history)", "takes_back(history)",
    ],
    "machines": [
        "is_machine(thing)", "letters_in(machine)", "state_behind(machine, word)", "takes(machine, word)",
        "least(machine)", "are_alike(one, other)", "parting_word(one, other)", "both_of(one, other)",
        "other_way(machine)",
    ],
    "doings": [
        "doing(machine, word)", "product(one, other)", "doings(machine)", "is_doing(machine, thing)",
        "word_for(machine, one)", "round_of(one)", "halting(machine)", "is_group(machine)",
        "commutes(machine)", "crossed(machine)", "surroundings(machine, one, other)",
        "is_surroundings(machine, one, other, thing)", "stuck(machine)", "is_stuck(machine, thing)",
    ],
    "centres": [
        "opposite(machine, one)", "exponent(machine)", "centre(machine)", "lots(machine)", "lot_of(machine, one)",
        "is_central(machine, one)", "rises(machine)", "class_of(machine)", "cross(machine, one, other)",
        "crosses(machine)", "twist(machine, words)", "twists(machine, many)", "twisted(machine, many)",
        "is_twisted(machine, many, thing)",
    ],
    "books": [
        "is_book(thing)", "is_stand(book, thing)", "letters_of(book)", "hues_for(book, letter)", "begun(book, many)",
        "turned(book, stand, change)", "stand_behind(book, history)", "answer(book, history)",
        "flags_along(book, history)", "hues_along(book, history, place)", "text_of(book, stand)",
        "stands_come(book, many)", "history_to(book, stand)",
    ],
    "told": [
        "goes_by(book, word)", "told_of(book)", "is_parts(book, thing)", "told_for(machine)", "levels_for(machine)",
    ],
    "made": [
        "hue_book(machine)", "book_sizes(machine)", "flag_doings(machine)", "hue_pairs(machine)",
        "turn_by(machine, one, old, new)", "stand_for(machine, text)", "parts_for(machine)",
    ],
    "fewest": [
        "hues_of(book)", "fewest_hues(machine)", "has_enough(book, machine)", "spread_for(machine, letter)",
        "crowd_of(book, machine, letter)", "is_crowd(book, machine, thing)", "crowd_parting(book, machine, crowd)",
        "is_parting(book, machine, thing)",
    ],
    "slots": [
        "is_deal(thing)", "dealt(deal)", "like_deals(machine, word)", "is_like_deals(machine, word, thing)",
        "slots(machine, deals, bits, around)", "gap_place(machine, deals, around, number)",
        "told_too_little(book, machine)",
    ],
    "laps": [
        "lap(book, word, around)", "twins(book, word, around)", "is_twins(book, word, around, thing)",
        "standing_machine(letters, letter)", "stuck_parting(book, machine)",
    ],
    "asked": [
        "whole_book(machine)", "whole_pairs(machine)", "whole_marks(machine)", "fewest_asked(machine)",
        "read_ahead(machine, stand, x)", "read_between(machine, stand, x, y)", "takes_between(machine, stand, x, y)",
        "wrong_places(book, machine, marks, history)", "is_wrong(book, machine, marks, thing)",
        "wrong_one(book, machine, marks)",
    ],
    "changes": [
        "swap_of(machine)", "is_swap(machine, thing)", "put_word(history)", "put_stack(history)", "put_flags(machine)",
        "put_book(machine)", "back_book(machine)", "is_put_right(book, machine)", "put_parting(book, machine)",
    ],
    "judged": [
        "sight_behind(book, machine, history)", "sight_turned(book, machine, sight, number, letter)",
        "lies_in(one, other)", "parting(book, machine)", "is_right(book, machine)", "least_rows(book, machine)",
        "is_rows(book, machine, thing)", "table(book, machine)", "is_table(book, machine, thing)",
    ],
    "steady": [
        "own_machine(book)", "is_steady(book)", "jar(book)", "is_jar(book, thing)", "are_books_alike(one, other)",
        "books_parting(one, other)", "is_books_parting(one, other, thing)",
    ],
    "pairbooks": [
        "is_pairbook(thing)", "tint_between(pairbook, history, x, y)", "pair_answer(pairbook, history)",
        "tints_that_come(pairbook)", "comes(pairbook, machine)", "is_pair_right(pairbook, machine)",
        "pair_parting(pairbook, machine)", "is_pair_parting(pairbook, machine, thing)", "tint_book(machine)",
        "fewest_tints(machine)", "crowded_tint(pairbook, machine)", "folded_tints(pairbook)",
        "pairs_parted(one, other)", "pair_machine(pairbook)", "unsteady_pair(pairbook)",
        "is_unsteady_pair(pairbook, thing)",
    ],
    "mirrors": [
        "mirrored_history(history)", "mirrored(book)", "mirrored_machine(machine)", "renamed(book, flags, hues)",
        "relettered(machine, letters)", "relettered_book(book, letters)", "is_folding(book, thing)", "folding(book)",
        "folded(book, lots)", "paired(one, other, word)",
    ],
    "texts": [
        "machine_text(machine)", "history_text(history)", "book_text(book)", "pairbook_text(pairbook)",
        "machine_read(text)", "history_read(text)", "book_read(text)", "pairbook_read(text)",
    ],
    "judge": [
        "is_claim(thing)", "is_so(claim)", "paper(claim)", "is_paper_for(claim, thing)",
        "is_paper_against(claim, thing)", "verdicts(claims, things)", "comes_of(claim, claims)", "first_false(claims)",
    ],
    "desk": ["desk(text)", "is_request(thing)"],
}


def interface():
    """All (file, function, names of its arguments) that have landed."""
    rows = []
    for file, heads in INTERFACE.items():
        for head in heads:
            name, rest = head[:-1].split("(")
            rows.append((file, name, rest.split(", ")))
    return rows


def function(file, name):
    return getattr(importlib.import_module("placehues." + file), name)


def with_lists(value, lists_at, depth=0):
    """value with a list for each tuple at a depth for which lists_at says so."""
    if not isinstance(value, (tuple, list)):
        return value
    inner = [with_lists(own, lists_at, depth + 1) for own in value]
    return inner if lists_at(depth) else tuple(inner)


def argument(name, value, lists_at):
    """value as it may be passed: a `thing` as it is, and each of `things`, all else with lists for tuples."""
    if name == "thing":
        return value
    if name == "things":
        return list(value) if lists_at(0) else tuple(value)
    return with_lists(value, lists_at)


HERE_AND_THERE = Random(2)

MIXTURES = [
    ("tuples", lambda depth: False),
    ("lists", lambda depth: True),
    ("lists at the top", lambda depth: depth == 0),
    ("lists further in", lambda depth: depth > 0),
    ("lists at each other depth", lambda depth: depth % 2 == 1),
    ("lists two deep", lambda depth: depth == 2),
    ("lists here and there", lambda depth: HERE_AND_THERE.random() < 0.5),
]


def outcome(call):
    """What a call returns, or the error that it raises with what this keeps."""
    try:
        return ("returned", call())
    except (LookupError, ValueError) as error:
        return ("raised", error.__class__.__name__, vars(error))


def shape(value):
    """A value in words that tell 1 from True, and a list from a tuple."""
    return repr(value)


def all_ways(function, names, values):
    """Calls function by position and by names, with all mixtures of lists: the list of the outcomes' shapes.

    Each call is made twice, what it returns is spoilt where that can be done, and
    each argument is looked at behind it: a changed one is told as an AssertionError.
    """
    shapes = []
    for _, lists_at in MIXTURES:
        args = [argument(name, own, lists_at) for name, own in zip(names, values)]
        before = copy.deepcopy(args)
        calls = [
            lambda: function(*args),
            lambda: function(**dict(zip(names, args))),
            lambda: function(**dict(reversed(list(zip(names, args))))),
            lambda: function(*args[:1], **dict(list(zip(names, args))[1:])),
        ]
        for call in calls + calls:
            got = outcome(call)
            shapes.append(shape(got))
            if got[0] == "returned" and isinstance(got[1], list):
                got[1].append("spoilt")
                got[1][0] = "spoilt"
            assert shape(args) == shape(before), (function, before, args)
    return shapes


def refused(function, *args):
    """The name of the error that a call raises, with what it keeps: CanNot, NoPlace(3); None if it raises none."""
    try:
        function(*args)
    except (LookupError, ValueError) as error:
        kept = ", ".join([str(own) for own in vars(error).values()])
        return error.__class__.__name__ + ("(%s)" % kept if kept else "")
    return None
