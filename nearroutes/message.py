"""What neighbours say to each other, in bytes."""

from nearroutes.address import ADDRESS_BITS, network_of
from nearroutes.route import OUT_OF_REACH

HEAD_SIZE = 2
OFFER_SIZE = 8
MOST_OFFERS = 64


def number_from(octets):
    number = 0
    for octet in octets:
        number = number * 256 + octet
    return number


def octets_of(number, many):
    return [number >> 8 * place & 255 for place in range(many - 1, -1, -1)]


# None where the eight octets are no offer, else a tuple (network, far).
def offer_from(octets):
    address = number_from(octets[:4])
    bits = octets[4]
    far = octets[5]
    # Without this check first, network_of would shift by a number below 0.
    if bits > ADDRESS_BITS:
        return None
    network = network_of(address, bits)
    if network[0] != address or not 1 <= far <= OUT_OF_REACH or number_from(octets[6:]) != 0:
        return None
    return (network, far)


# None where the octets are not just a message: nothing of such a one may be offered,
# so all of it is read before any of it is given back.
def offers_from(octets):
    # Fewer octets than a head has never have the length that their number asks for.
    many = number_from(octets[:HEAD_SIZE])
    if not 1 <= many <= MOST_OFFERS or len(octets) != HEAD_SIZE + OFFER_SIZE * many:
        return None
    offers = []
    for at in range(HEAD_SIZE, len(octets), OFFER_SIZE):
        offer = offer_from(octets[at:at + OFFER_SIZE])
        if offer is None:
            return None
        offers.append(offer)
    return offers


def message_of(offers):
    octets = octets_of(len(offers), HEAD_SIZE)
    for network, far in offers:
        octets.extend(octets_of(network[0], 4))
        octets.extend([network[1], far, 0, 0])
    return octets


# As many messages as the offers, tuples (network, far), need: none for none.
def messages_of(offers):
    return [message_of(offers[at:at + MOST_OFFERS]) for at in range(0, len(offers), MOST_OFFERS)]
