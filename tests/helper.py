"""Calls and messages written by name, for all tests."""

from nearroutes.links import answers

TOP = 2 ** 64 - 1
TIME_END = 2 ** 62
LAST_HOST = 2 ** 32 - 2


def ip(a, b=0, c=0, d=0):
    return (a << 24) + (b << 16) + (c << 8) + d


def begin(now=0):
    return [0, now]


def link(i, address, bits):
    return [1, i, address, bits]


def down(i):
    return [2, i]


def hear(i, neighbour, octets):
    return [3, i, neighbour, len(octets)] + list(octets)


def tick(now):
    return [4, now]


def way(address):
    return [5, address]


ROUTES = [6]
DUE = [7]


def offer(address, bits, far, rest=0):
    return list(address.to_bytes(4, "big")) + [bits, far] + list(rest.to_bytes(2, "big"))


def message(*offers):
    """Each of the offers is (address, bits, far)."""
    octets = list(len(offers).to_bytes(2, "big"))
    for one in offers:
        octets += offer(*one)
    return octets


def sent(*messages):
    """What tick answers: each of the messages is its link, then what is told in it as (address, bits, far)."""
    answer = [len(messages)]
    for i, *offers in messages:
        octets = message(*offers)
        answer += [i, len(octets)] + octets
    return answer


def listed(*routes):
    """What routes answers: each of them is (address, bits, far, link, neighbour)."""
    return [len(routes)] + flat(routes)


OUR = ip(10, 0, 0, 1)
NEAR = ip(10, 0, 0, 2)
OTHER = ip(10, 0, 0, 3)
ACROSS = ip(10, 0, 1, 2)
FAR_NET = (ip(172, 16), 12)
NET_0 = (ip(10), 24)
NET_1 = (ip(10, 0, 1), 24)

# The time is 1000. Link 0 is up in 10.0.0.0/24, with NEAR and OTHER on it; link 1 in 10.0.1.0/24, with ACROSS.
UP = [begin(1000), link(0, OUR, 24)]
UP_TWO = UP + [link(1, ip(10, 0, 1, 1), 24)]


def flat(calls):
    return [number for call in calls for number in call]


def said(*calls):
    """What each of the calls answers: a list of numbers; or, where it is one alone, the number."""
    answered = answers(flat(calls))
    found = []
    while answered:
        many, answer, answered = answered[0], answered[1:answered[0] + 1], answered[answered[0] + 1:]
        if many < 1 or len(answer) != many:
            raise AssertionError("not as many numbers as told: " + repr(answer))
        found.append(answer[0] if many == 1 else answer)
    if len(found) != len(calls):
        raise AssertionError("not one answer a call: " + repr(found))
    return found


def said_after(start, *calls):
    """What the calls answer that stand behind those of start."""
    return said(*start, *calls)[len(start):]


def told(far, neighbour=NEAR, i=0, network=FAR_NET):
    """One network is offered."""
    return hear(i, neighbour, message((network[0], network[1], far)))


def nets(start, many, far=1):
    """So many offers, each of another network."""
    return [(ip(192, 168) + k, 32, far) for k in range(start, start + many)]


def filling(many):
    """Calls by which so many routes are learned from NEAR, in messages of at most 64."""
    return [hear(0, NEAR, message(*nets(start, min(64, many - start)))) for start in range(0, many, 64)]
