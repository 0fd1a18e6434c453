"""All routes, one for each network."""

from nearroutes.address import is_of
from nearroutes.route import NO_NEIGHBOUR, OUT_OF_REACH, Route

MOST_ROUTES = 256


class Table:
    def __init__(self):
        self.by_network = {}

    def is_full(self):
        return len(self.by_network) >= MOST_ROUTES

    def has_place_for(self, network):
        return network in self.by_network or not self.is_full()

    # None where there is no such route.
    def course_to(self, network):
        route = self.by_network.get(network)
        return None if route is None else route.course()

    # Tuples (network, route), by the address, then by the bits.
    def in_order(self):
        return [(network, self.by_network[network]) for network in sorted(self.by_network)]

    def changed_in_order(self):
        return [(network, route) for network, route in self.in_order() if route.changed]

    def has_changed(self):
        return any([route.changed for route in self.by_network.values()])

    # When time alone forgets or loses each route but the links' own.
    def ends(self):
        return [route.ends_at() for route in self.by_network.values() if not route.is_own()]

    # None where no route in reach leads to the address.
    def route_to(self, address):
        narrowest = None
        most_bits = -1
        for network, route in self.by_network.items():
            if route.is_in_reach() and network[1] > most_bits and is_of(address, network):
                narrowest = route
                most_bits = network[1]
        return narrowest

    def put_own(self, network, link, now):
        self.by_network[network] = Route(0, link, NO_NEIGHBOUR, now)

    def lose_all_by(self, link, now):
        for route in self.by_network.values():
            if route.link == link and route.is_in_reach():
                route.lose(now)

    def forget_old(self, now):
        kept = {}
        for network, route in self.by_network.items():
            if not route.is_forgotten(now):
                kept[network] = route
        self.by_network = kept

    def lose_outdated(self, now):
        for route in self.by_network.values():
            if route.is_outdated(now):
                route.lose(now)

    def mark_unchanged(self):
        for route in self.by_network.values():
            route.changed = False

    def offer(self, network, far, link, neighbour, now):
        route = self.by_network.get(network)
        if route is None:
            learns = far < OUT_OF_REACH and not self.is_full()
        elif route.is_own():
            learns = False
        elif route.is_by(link, neighbour):
            learns = self.hear_again(route, far, now)
        else:
            learns = route.yields_to(far, now)
        if learns:
            self.by_network[network] = Route(far, link, neighbour, now)

    # Whether the offer makes a new route in the place of this one.
    def hear_again(self, route, far, now):
        if far == OUT_OF_REACH:
            # One that is lost already keeps its times, or it would never be forgotten.
            if route.is_in_reach():
                route.lose(now)
            return False
        if far == route.far:
            route.confirm(now)
            return False
        return True
