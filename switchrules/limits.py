"""The ranges of the values that calls are handed."""

LAST_ADDRESS = 4294967295
LAST_KIND = 255
LAST_PORT = 65535

# As a rule's from or to: all addresses. As its kind: all kinds.
ALL = -1


def is_address(number):
    return 0 <= number <= LAST_ADDRESS


def is_packet(source, target, kind, port):
    return is_address(source) and is_address(target) and 0 <= kind <= LAST_KIND and 0 <= port <= LAST_PORT
