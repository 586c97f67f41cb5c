"""Values of all kinds that a `thing` may be, most of them nothing that any function asks for."""


def nested(times, inmost, kind):
    value = inmost
    for _ in range(times):
        value = kind([value])
    return value


ODD_VALUES = [
    None, True, False, 0, 1, -1, 2, 10 ** 400, -10 ** 400, "", "1", "ab", "(1,)", [], (), [()], ((),), [[]], ((), ()),
    (True,), (False,), (None,), ("1",), ("",), (-1,), [1], [0], (1, True), (1, None), (1, "2"), (1, [2]), (1, (2,)),
    (1, -2), (-10 ** 400,), ((1,), 1), (1, (1,)), ([1], [1]), ([], []), ("", ""), (None, None), (True, True),
    ((True,), ()), ((None,), ()), (("",), ""), ((1,), [1]), ([1], (1,)), ((1,), None), ((-1,), ()), ((), (-1,)),
    ((), (), ()), ([], [], []), ((), (), None), ((), (), (), ()), (((),), ()), (((),), ((),)), ((((),),),),
    nested(99, 1, tuple), nested(99, 1, list), nested(99, (), tuple), (nested(98, 1, tuple), ()),
    ((), nested(98, 1, tuple)), ((nested(97, 1, tuple),), ()), (0,) * 5000, [1] * 5000, ((),) * 5000,
]


def variants(value):
    """The list of what is nearly value: a list for one of its tuples, another value in the place of one of
    its parts, a part too much, or none; at each depth. value itself is not one."""
    return [own for own in _changed(value) if repr(own) != repr(value)]


def _changed(value):
    if isinstance(value, tuple):
        yield list(value)
        yield value + (None,)
        yield value + ((),)
        for at, own in enumerate(value):
            for other in _changed(own):
                yield value[:at] + (other,) + value[at + 1:]
    elif isinstance(value, str):
        yield value + " "
        yield value[1:]
        yield value.upper()
        yield (value,)
    else:
        yield None
        yield str(value)
        yield (value,)
        yield [value]
        yield -1 - value
        if value in (0, 1):
            yield bool(value)
    yield ()
