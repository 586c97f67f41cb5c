"""What a single value is: the questions of which the larger ones are made.

Here a list is no tuple, and True and False are no numbers.
"""


def is_number(thing):
    """Whether thing is a number."""
    return isinstance(thing, int) and not isinstance(thing, bool)


def is_tuple_of(thing, many):
    """Whether thing is a tuple of so many values."""
    return isinstance(thing, tuple) and len(thing) == many


def has_numbers(thing):
    """Whether thing is a tuple, maybe (), of numbers."""
    return isinstance(thing, tuple) and all([is_number(own) for own in thing])


def has_numbers_from(thing, low):
    """Whether thing is a tuple, maybe (), of numbers none of which is below low."""
    return has_numbers(thing) and all([own >= low for own in thing])


def has_numbers_between(thing, low, high):
    """Whether thing is a tuple, maybe (), of numbers from low to high."""
    return has_numbers_from(thing, low) and all([own <= high for own in thing])


def is_ascending(numbers):
    """Whether each of the numbers is greater than the one ahead of it."""
    return all([own < after for own, after in zip(numbers, numbers[1:])])


def is_set_below(thing, many):
    """Whether thing is an ascending tuple, maybe (), of numbers from 0, all below many."""
    return has_numbers_between(thing, 0, many - 1) and is_ascending(thing)


def is_answers(thing):
    """Whether thing is a tuple, not (), of True and False."""
    return isinstance(thing, tuple) and len(thing) > 0 and all([isinstance(own, bool) for own in thing])


def as_tuples(value):
    """value, with a tuple for each list in it, at any depth."""
    if isinstance(value, (list, tuple)):
        return tuple([as_tuples(own) for own in value])
    return value
