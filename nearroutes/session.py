"""The calls on one object: its time, its links and its routes."""

from nearroutes.address import LAST_ADDRESS, is_host, is_of, network_of
from nearroutes.message import messages_of, offers_from
from nearroutes.route import NO_NEIGHBOUR
from nearroutes.table import Table

LAST_LINK = 3
MOST_LINK_BITS = 31
# 2 to the 62nd: a time is below it.
TIME_END = 0x4000000000000000
ALL_TOLD_EVERY = 30000
CHANGES_TOLD_EVERY = 1000


# A link that is up.
class Port:
    def __init__(self, address, network):
        self.address = address
        self.network = network


# begin, bring_up, take_down and hear answer one number; tick, way, routes and due a list
# of numbers.
class Session:
    def __init__(self):
        self.begun = False
        self.start_at(0)

    def start_at(self, now):
        self.now = now
        # A link that is down has None for its port.
        self.ports = [None, None, None, None]
        self.table = Table()
        self.all_told_at = now + ALL_TOLD_EVERY
        self.changes_told_from = now

    def begin(self, now):
        if now >= TIME_END:
            return -1
        self.start_at(now)
        self.begun = True
        return 0

    def bring_up(self, i, address, bits):
        if i > LAST_LINK or not is_host(address) or not 1 <= bits <= MOST_LINK_BITS:
            return -1
        if self.ports[i] is not None:
            return -4
        network = network_of(address, bits)
        if self.has_port_on(network):
            return -2
        if not self.table.has_place_for(network):
            return -5
        self.ports[i] = Port(address, network)
        self.table.put_own(network, i, self.now)
        return 0

    def has_port_on(self, network):
        return any([port is not None and port.network == network for port in self.ports])

    def take_down(self, i):
        if i > LAST_LINK:
            return -1
        if self.ports[i] is None:
            return -4
        self.ports[i] = None
        self.table.lose_all_by(i, self.now)
        return 0

    def hear(self, i, neighbour, octets):
        if i > LAST_LINK or not is_host(neighbour):
            return -1
        port = self.ports[i]
        if port is None:
            return -4
        if neighbour == port.address or not is_of(neighbour, port.network):
            return -2
        offers = offers_from(octets)
        if offers is None:
            return -3
        return self.take_in(offers, i, neighbour)

    # A message may offer a network more than once, so only what there is before the
    # first offer and after the last one tells which routes are others.
    def take_in(self, offers, i, neighbour):
        before = {}
        for network, far in offers:
            before[network] = self.table.course_to(network)
        for network, far in offers:
            self.table.offer(network, far, i, neighbour, self.now)
        return len([network for network in before if self.table.course_to(network) != before[network]])

    def tick(self, now):
        if now < self.now or now >= TIME_END:
            return [-1]
        self.now = now
        self.table.forget_old(now)
        self.table.lose_outdated(now)
        if now >= self.all_told_at:
            self.all_told_at = now + ALL_TOLD_EVERY
            return self.tell(self.table.in_order())
        if now >= self.changes_told_from and self.table.has_changed():
            return self.tell(self.table.changed_in_order())
        return [0]

    # What is told of all routes tells of those that have changed, too.
    def tell(self, routes_told):
        many = 0
        sent = []
        for i, port in enumerate(self.ports):
            if port is not None:
                for octets in messages_of([(network, route.far_told_on(i)) for network, route in routes_told]):
                    many = many + 1
                    sent.extend([i, len(octets)] + octets)
        self.table.mark_unchanged()
        self.changes_told_from = self.now + CHANGES_TOLD_EVERY
        return [many] + sent

    def way(self, address):
        if address > LAST_ADDRESS:
            return [-1]
        route = self.table.route_to(address)
        if route is None:
            return [-2]
        neighbour = address if route.neighbour == NO_NEIGHBOUR else route.neighbour
        return [route.far, route.link, neighbour]

    def routes(self):
        in_order = self.table.in_order()
        listed = [len(in_order)]
        for network, route in in_order:
            listed.extend([network[0], network[1], route.far, route.link, route.neighbour])
        return listed

    def due(self):
        times = self.table.ends() + [self.all_told_at]
        if self.table.has_changed():
            times.append(max(self.changes_told_from, self.now))
        return [0, min(times)]
