"""One route: how far a network is, and by which link and neighbour."""

OUT_OF_REACH = 16
NO_NEIGHBOUR = 0

GOOD_FOR = 180000
HELD_FOR = 60000
KEPT_FOR = 120000


# good_till says something of a neighbour's route in reach alone, free_from and
# forgotten_at of a route out of reach alone.
class Route:
    def __init__(self, far, link, neighbour, now):
        self.far = far
        self.link = link
        self.neighbour = neighbour
        self.good_till = now + GOOD_FOR
        self.free_from = now
        self.forgotten_at = now
        self.changed = True

    def is_in_reach(self):
        return self.far < OUT_OF_REACH

    def is_own(self):
        return self.far == 0

    def is_by(self, link, neighbour):
        return self.link == link and self.neighbour == neighbour

    def is_forgotten(self, now):
        return not self.is_in_reach() and now >= self.forgotten_at

    def is_outdated(self, now):
        return self.is_in_reach() and not self.is_own() and now >= self.good_till

    # When time alone forgets or loses it; a link's own has no such time and isn't asked.
    def ends_at(self):
        return self.good_till if self.is_in_reach() else self.forgotten_at

    def course(self):
        return (self.far, self.link, self.neighbour)

    def confirm(self, now):
        self.good_till = now + GOOD_FOR

    # The link and the neighbour stay: from them alone a lost route is taken again at once.
    def lose(self, now):
        self.far = OUT_OF_REACH
        self.free_from = now + HELD_FOR
        self.forgotten_at = now + KEPT_FOR
        self.changed = True

    # A link's neighbours must never take a way back to themselves for one that leads on.
    def far_told_on(self, link):
        if self.link == link:
            return OUT_OF_REACH
        return min(self.far + 1, OUT_OF_REACH)

    # Another neighbour's word on a lost route may be an echo of the route that was
    # lost, so it counts only after a while.
    def yields_to(self, far, now):
        if self.is_in_reach():
            return far < self.far
        return far < OUT_OF_REACH and now >= self.free_from
