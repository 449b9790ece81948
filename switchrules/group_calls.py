"""The calls that make groups and tell of them."""

from switchrules.edges import count_addresses, list_runs, mark
from switchrules.limits import LAST_ADDRESS, is_address
from switchrules.switch import is_named_group, is_range

LAST_GROUP = 15
MOST_NUMBERS = 48


def answer_group(switch, number, listed):
    if not 0 <= number <= LAST_GROUP or len(listed) > MOST_NUMBERS:
        return [-1]
    parts = []
    for i in range(0, len(listed), 3):
        part = tuple(listed[i:i + 3])
        refusal = refuse_part(switch, number, part)
        if refusal < 0:
            return [refusal]
        parts.append(part)
    switch.set_group(number, parts)
    return [0]


# 0 stands for a part that is right.
def refuse_part(switch, number, part):
    if len(part) < 3:
        return -2
    if is_range(part[0]):
        return 0 if 0 <= part[1] <= part[2] <= LAST_ADDRESS else -2
    if not is_named_group(part[0]) or part[2] != 0:
        return -2
    return 0 if part[1] in switch.groups and part[1] < number else -3


def answer_nogroup(switch, number):
    if number not in switch.groups:
        return [-1]
    if rule_has(switch, number) or part_has(switch, number):
        return [-2]
    switch.drop_group(number)
    return [0]


def rule_has(switch, number):
    return any([number == rule[1] or number == rule[2] for rule in switch.rules])


# The parts of the group itself need no leaving out: none names its own group.
def part_has(switch, number):
    for parts in switch.groups.values():
        if any([is_named_group(part[0]) and part[1] == number for part in parts]):
            return True
    return False


def answer_runs(switch, number):
    if number not in switch.groups:
        return [-1]
    runs = list_runs(switch.edges_of(number))
    return [0, len(runs) // 2] + runs


def answer_member(switch, number, address):
    if number not in switch.groups:
        return [-1]
    if not is_address(address):
        return [-2]
    return [1 if switch.groups_holding(address)[number] else 0]


def answer_size(switch, number):
    if number not in switch.groups:
        return [-1]
    return [count_addresses(switch.edges_of(number))]


def answer_same(switch, number, other):
    if number not in switch.groups or other not in switch.groups:
        return [-1]
    return [1 if switch.edges_of(number) == switch.edges_of(other) else 0]


def answer_inside(switch, number, other):
    if number not in switch.groups or other not in switch.groups:
        return [-1]
    outside = mark(switch.edges_of(number), switch.edges_of(other), False)
    return [0 if outside else 1]
