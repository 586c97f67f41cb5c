"""Calls of one function in all the ways in which the document lets it be called."""

import copy
import importlib

INTERFACE = {
    "words": [
        "is_word(thing)", "is_text(thing)", "is_history(thing)", "reads(text)", "changed(text, change)",
        "text_behind(history)", "texts_along(history)", "plain(word)", "beside(one, other)",
        "puts_only(history)", "takes_back(history)",
    ],
    "machines": [
        "is_machine(thing)", "letters_in(machine)", "state_behind(machine, word)", "takes(machine, word)",
        "least(machine)", "are_alike(one, other)", "parting_word(one, other)", "both_of(one, other)",
        "other_way(machine)",
    ],
    "doings": [
        "doing(machine, word)", "product(one, other)", "doings(machine)", "is_doing(machine, thing)",
        "word_for(machine, one)", "round_of(one)", "halting(machine)", "is_group(machine)",
        "commutes(machine)", "crossed(machine)", "surroundings(machine, one, other)",
        "is_surroundings(machine, one, other, thing)", "stuck(machine)", "is_stuck(machine, thing)",
    ],
}


def interface():
    """All (file, function, names of its arguments) that have landed."""
    rows = []
    for file, heads in INTERFACE.items():
        for head in heads:
            name, rest = head[:-1].split("(")
            rows.append((file, name, rest.split(", ")))
    return rows


def function(file, name):
    return getattr(importlib.import_module("placehues." + file), name)


def with_lists(value, lists_at, depth=0):
    """value with a list for each tuple at a depth for which lists_at says so."""
    if not isinstance(value, (tuple, list)):
        return value
    inner = [with_lists(own, lists_at, depth + 1) for own in value]
    return inner if lists_at(depth) else tuple(inner)


MIXTURES = [
    ("tuples", lambda depth: False),
    ("lists", lambda depth: True),
    ("lists at the top", lambda depth: depth == 0),
    ("lists further in", lambda depth: depth > 0),
    ("lists at each other depth", lambda depth: depth % 2 == 1),
    ("lists two deep", lambda depth: depth == 2),
]


def outcome(call):
    """What a call returns, or the error that it raises with what this keeps."""
    try:
        return ("returned", call())
    except (LookupError, ValueError) as error:
        return ("raised", error.__class__.__name__, vars(error))


def shape(value):
    """A value in words that tell 1 from True, and a list from a tuple."""
    return repr(value)


def all_ways(function, names, values):
    """Calls function by position and by names, with all mixtures of lists: the list of the outcomes' shapes.

    Each call is made twice, what it returns is spoilt where that can be done, and
    each argument is looked at behind it: a changed one is told as an AssertionError.
    """
    shapes = []
    for _, lists_at in MIXTURES:
        args = [own if name == "thing" else with_lists(own, lists_at) for name, own in zip(names, values)]
        before = copy.deepcopy(args)
        calls = [
            lambda: function(*args),
            lambda: function(**dict(zip(names, args))),
            lambda: function(**dict(reversed(list(zip(names, args))))),
            lambda: function(*args[:1], **dict(list(zip(names, args))[1:])),
        ]
        for call in calls + calls:
            got = outcome(call)
            shapes.append(shape(got))
            if got[0] == "returned" and isinstance(got[1], list):
                got[1].append("spoilt")
                got[1][0] = "spoilt"
            assert shape(args) == shape(before), (function, before, args)
    return shapes
