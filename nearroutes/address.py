"""Addresses and the networks they are of; a network is a tuple (address, bits)."""

ADDRESS_BITS = 32
LAST_ADDRESS = 0xFFFFFFFF
LAST_HOST = 0xFFFFFFFE


def is_host(address):
    return 1 <= address <= LAST_HOST


def network_of(address, bits):
    lower = ADDRESS_BITS - bits
    return (address >> lower << lower, bits)


def is_of(address, network):
    return network_of(address, network[1]) == network
