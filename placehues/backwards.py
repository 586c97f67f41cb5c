"""From which SIGHTS a wrong one can come, found backwards, by 0, 1, 2, .. CHANGES."""

from placehues.errors import TooMuch


class Rows:
    """A set of SIGHTS, asked whether one of them lies in another one, mark by mark.

    Each mark leads from a node to one further in; nodes is a tuple of those
    to which the marks so far lead, some of them left out.
    """

    def __init__(self):
        self.starts = {}
        self.leads = []
        self.ends = []

    def add_node(self):
        """The number of a new node."""
        self.leads.append({})
        self.ends.append(False)
        return len(self.ends) - 1

    def put(self, spot, marks):
        """Adds the SIGHT of this spot and these marks."""
        if spot not in self.starts:
            self.starts[spot] = self.add_node()
        node = self.starts[spot]
        for mark in marks:
            if mark not in self.leads[node]:
                self.leads[node][mark] = self.add_node()
            node = self.leads[node][mark]
        self.ends[node] = True

    def begin(self, spot):
        """The nodes for a spot and no marks; None if that is one of the set."""
        if spot not in self.starts:
            return ()
        return None if self.ends[self.starts[spot]] else (self.starts[spot],)

    def go_on(self, nodes, mark):
        """The nodes behind one mark more; None if one of the set lies in what they stand for."""
        leads = self.leads
        found = [leads[node][mark] for node in nodes if mark in leads[node]]
        if len(found) == 0:
            return nodes
        if any([self.ends[node] for node in found]):
            return None
        return nodes + tuple([node for node in found if node not in nodes])

    def lies_in(self, spot, marks):
        """Whether one of the set lies in the SIGHT of this spot and these marks."""
        nodes = self.begin(spot)
        for mark in marks:
            if nodes is None:
                return True
            nodes = self.go_on(nodes, mark)
        return nodes is None


class Ahead:
    """The SIGHTS, with none of rows in them, that a Step turns to one in which a SIGHT lies.

    A SIGHT on the way is told as (nodes, marks, place): place is that of the
    changed mark. If it is only asked whether there is one, marks and place are
    left out: then those of like nodes are one.
    """

    def __init__(self, sights, rows, allowed, only_asked):
        self.sights = sights
        self.rows = rows
        self.allowed = allowed
        self.only_asked = only_asked

    def fit_marks(self, spot, marks):
        """The list of those of marks that may stand beside a spot."""
        return [mark for mark in marks if self.allowed is None or mark in self.allowed.get(spot, {})]

    def grown(self, ways, marks, is_changed):
        """The dict of the ways, each with one of marks behind it."""
        grown = {}
        for nodes, own, place in ways:
            for mark in marks:
                after = self.rows.go_on(nodes, mark)
                if after is not None and self.only_asked:
                    grown[(tuple(sorted(after)), (), 0)] = True
                elif after is not None:
                    grown[(after, own + (mark,), len(own) if is_changed else place)] = True
        return grown

    def ways_to(self, step, marks, is_more):
        """The dict of the SIGHTS that a Step turns so, those with one mark more if is_more, else those with as many.

        A mark more is the changed one, with none of marks in its place.
        """
        nodes = self.rows.begin(step.spot)
        if nodes is None or not is_more and not any([mark in step.letters_to for mark in marks]):
            return {}
        changed = [mark for mark in self.fit_marks(step.spot, step.letters) if self.rows.go_on(nodes, mark) is not None]
        ahead, behind = {(nodes, (), 0): True}, {}
        for mark in marks:
            if len(changed) == 0 or len(ahead) + len(behind) == 0:
                return {}
            if is_more:
                behind.update(self.grown(ahead, changed, True))
            behind = self.grown(behind, self.fit_marks(step.spot, self.sights.behind_of(step, mark)), False)
            if not is_more and mark in step.letters_to:
                led = step.letters_to[mark]
                behind.update(self.grown(ahead, [own for own in changed if own in led], True))
            ahead = self.grown(ahead, self.fit_marks(step.spot, self.sights.ahead_of(step, mark)), False)
        if is_more:
            behind.update(self.grown(ahead, changed, True))
        return behind


class Search:
    """The SIGHTS from which a wrong one can come by so many CHANGES at most, that have no other such one in them.

    TooMuch() if these are ever more than most, none of them begun. allowed, if
    not None, has for each spot the marks that may stand beside it.
    """

    def __init__(self, sights, most, allowed):
        self.sights = sights
        self.most = most
        self.allowed = allowed
        self.ways = {}
        self.steps = {}
        self.found = [(spot, ()) for spot in sights.wrong_spots() if allowed is None or spot in allowed]
        self.fresh = list(self.found)

    def run(self):
        """A HISTORY with the fewest CHANGES that leads to a wrong SIGHT; None if none does."""
        if self.sights.is_wrong(self.sights.spot):
            return 1, ()
        while len(self.fresh) > 0:
            for sight in self.fresh:
                begun = self.begun_ahead_of(sight)
                if begun is not None:
                    return self.history_from(begun, sight)
            self.go_back()
        return None

    def begun_ahead_of(self, sight):
        """(letter, place, is_more) of a CHANGE that turns a begun SIGHT to one in which sight lies, or None."""
        spot, marks = sight
        start, free = self.sights.spot, self.sights.mark
        for letter, (after, own, left, right, turn) in enumerate(self.sights.turns_at(start, free)):
            if after == spot:
                ahead, behind = self.sights.put_left(left, free), self.sights.put_right(right, turn, free)
                for place in range(len(marks) + 1):
                    if marks[place:] == (behind,) * (len(marks) - place):
                        return letter, place, True
                    if marks[place:] == (own,) + (behind,) * (len(marks) - place - 1):
                        return letter, place, False
                    # the marks up to this one are ahead of each later place
                    if marks[place] != ahead:
                        break
        return None

    def history_from(self, begun, sight):
        """The HISTORY that begins with this CHANGE and goes on from sight as it was found."""
        letter, place, is_more = begun
        many = len(sight[1]) + int(is_more)
        places = list(range(many))
        changes = [(place, letter)]
        while True:
            if is_more:
                del places[place]
            if sight not in self.ways:
                return many, tuple(changes)
            sight, place, letter, is_more = self.ways[sight]
            changes.append((places[place], letter))

    def go_back(self):
        """Finds those from which a wrong one can come by one CHANGE more."""
        rows, kept, fresh = Rows(), [], []
        longest = max([len(marks) for _, marks in self.found])
        ahead = Ahead(self.sights, rows, self.allowed, False)
        for length in range(longest + 2):
            for spot, marks in [own for own in self.found if len(own[1]) == length]:
                if not rows.lies_in(spot, marks):
                    rows.put(spot, marks)
                    kept.append((spot, marks))
            for is_more in (False, True):
                last = [own for own in self.fresh if len(own[1]) + int(is_more) == length]
                self.add_ahead_of(last, ahead, is_more, (kept, fresh))
        self.found = kept + fresh
        self.fresh = fresh
        self.ask_whether_too_much(len(self.found))

    def add_ahead_of(self, sights, ahead, is_more, told):
        """Adds to what is told, kept and fresh, the SIGHTS that are one CHANGE ahead of sights."""
        kept, fresh = told
        for sight in sights:
            spot, marks = sight
            if spot not in self.steps:
                self.steps[spot] = self.sights.steps_to(spot)
            for step in self.steps[spot]:
                for _, own, place in ahead.ways_to(step, marks, is_more):
                    if not ahead.rows.lies_in(step.spot, own):
                        ahead.rows.put(step.spot, own)
                        fresh.append((step.spot, own))
                        letters = step.letters if is_more else step.letters_to[marks[place]]
                        self.ways[(step.spot, own)] = (sight, place, letters[own[place]], is_more)
            self.ask_whether_too_much(len(kept) + len(fresh))

    def ask_whether_too_much(self, many):
        """Raises TooMuch() if so many are more than most."""
        if self.most is not None and many > self.most:
            raise TooMuch()
