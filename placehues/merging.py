"""Which STATES of a MACHINE take the same WORDS."""


class Parted:
    """STATES that are parted into groups 0, 1, .., and the groups again."""

    def __init__(self, many):
        self.group_of = [0] * many
        self.inside = [{state: True for state in range(many)}]

    def part_off(self, group, parts):
        """Makes groups of their own of parts of this group, and returns the STATES that are moved.

        The greatest part stays, be it what is left of the group: so no STATE
        is moved often, however many there are.
        """
        own = self.inside[group]
        moving = sorted(parts, key=len)
        left = len(own) - sum([len(part) for part in parts])
        if left < len(moving[-1]):
            told = {state: True for part in parts for state in part}
            moving[-1] = [state for state in own if state not in told]
        moved = []
        for part in moving:
            if len(part) > 0:
                self.move(group, part)
                moved.extend(part)
        return moved

    def move(self, group, part):
        """Makes one group of its own of this part of the group."""
        for state in part:
            del self.inside[group][state]
            self.group_of[state] = len(self.inside)
        self.inside.append({state: True for state in part})


def groups_of(rows, taking):
    """The list with for each STATE its group: those of one group take the same WORDS.

    rows are the steps of the STATES; taking has for each whether it is an end.
    """
    parted = Parted(len(rows))
    sources = _sources(rows)
    ends = [state for state, is_end in enumerate(taking) if is_end]
    moved = parted.part_off(0, [ends])
    while len(moved) > 0:
        parts = _unlike_parts(rows, parted, sources, moved)
        moved = []
        for group, own in parts.items():
            moved.extend(parted.part_off(group, list(own.values())))
    return parted.group_of


def _sources(rows):
    """The list with for each STATE those that some letter leads to it."""
    sources = [[] for _ in rows]
    for state, row in enumerate(rows):
        for after in row:
            sources[after].append(state)
    return sources


def _unlike_parts(rows, parted, sources, moved):
    """For each group the parts of it that letters lead to moved STATES, each to like groups.

    The STATES of a group were led to like groups before these moved: so what
    is left of the group is still led so, and unlike each of the parts.
    """
    parts = {}
    for state in sorted({source for after in moved for source in sources[after]}):
        leads = tuple([parted.group_of[after] for after in rows[state]])
        own = parts.setdefault(parted.group_of[state], {})
        own.setdefault(leads, []).append(state)
    return parts
