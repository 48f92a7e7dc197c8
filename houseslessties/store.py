"""A store: a net that is copied house by house while deeds and meetings go on, and put back."""

from houseslessties.errors import Refused
from houseslessties.kinds import replaced
from houseslessties.nets import done_at, joined_over, put_joined, stand_first
from houseslessties.webs import need_house, ways_on


class Store:
    """A net with the last whole copy, and the copies of the walk under way."""

    def __init__(self, machine, web, first):
        stand_first(self, machine, web, first)
        self.backup = None
        self.caught = None
        self.end_walk()

    def end_walk(self):
        """No house is read; what was done so far is caught by the next walk."""
        self.copies = (None,) * self.web.houses
        self.tie_copies = (None,) * len(self.web.ties)
        self.held = self.steps

    def do(self, house, deed):
        """The house's state behind the deed."""
        state = done_at(self, house, deed)
        self.hold((house,))
        return state

    def meet(self, tie):
        """The state of both houses and the tie behind their meeting."""
        # A meeting that is not told must not read a house either: so the join comes first.
        joined = joined_over(self, tie)
        ends = self.web.ties[tie]
        unread = [house for house in ends if self.copies[house] is None]
        if len(unread) == 1:
            self.read(unread[0])
        put_joined(self, tie, joined)
        self.hold(ends)
        return joined

    def hold(self, houses):
        """The last step is caught by the walk if none of its houses was read ahead of it."""
        if all([self.copies[house] is None for house in houses]):
            self.held = self.held + self.steps[-1:]

    def read(self, house):
        """The house's state, which is its copy now."""
        if self.copies[need_house(self.web, house)] is not None:
            raise Refused(house)
        state = self.states[house]
        self.copies = replaced(self.copies, house, state)
        for tie, other in ways_on(self.web, house):
            if self.copies[other] is not None:
                self.tie_copies = replaced(self.tie_copies, tie, self.archives[tie])
        if None not in self.copies:
            self.backup = (self.copies, self.tie_copies)
            self.caught = self.held
            self.end_walk()
        return state

    def put_back(self):
        """All stands as in the last whole copy again."""
        if self.backup is None:
            raise Refused(None)
        self.states, self.archives = self.backup
        self.steps = self.caught
        self.end_walk()
