"""The one object that calls work on: its groups by id, and its rules in order.

A group is a list of parts, each a tuple of three numbers. A rule is a tuple:
pass, from, to, kind, lo, hi.
"""

from switchrules.edges import mark
from switchrules.limits import ALL, LAST_ADDRESS
from switchrules.table import make_table

RANGE_IN = 0
RANGE_OUT = 1
GROUP_IN = 2
GROUP_OUT = 3


class Switch:
    def __init__(self):
        # No begin that answers 0 has a most of 0, so this stands for nothing begun.
        self.most = 0
        self.groups = {}
        self.rules = []
        self.known_edges = {}
        self.known_table = None

    def has_begun(self):
        return self.most > 0

    def begin_anew(self, most):
        self.most = most
        self.groups = {}
        self.rules = []
        self.known_edges = {}
        self.known_table = None

    def set_group(self, number, parts):
        self.groups[number] = parts
        # Groups of greater ids may be made of this one, and rules have any of them.
        self.known_edges = {}
        self.known_table = None

    def drop_group(self, number):
        self.groups.pop(number)
        self.known_edges = {}
        self.known_table = None

    def add_rule(self, place, rule):
        self.rules.insert(place, rule)
        self.known_table = None

    def drop_rule(self, place):
        self.rules.pop(place)
        self.known_table = None

    def move_rule(self, place, target):
        rule = self.rules.pop(place)
        self.rules.insert(target, rule)
        self.known_table = None

    def edges_of(self, number):
        # A group names smaller ids alone: in rising order, what it names is known by then.
        for other in sorted(self.groups):
            if other <= number and other not in self.known_edges:
                self.known_edges[other] = edges_of_parts(self.groups[other], self.known_edges)
        return self.known_edges[number]

    # A side is the from or the to of a rule.
    def edges_of_side(self, side):
        return [0, LAST_ADDRESS + 1] if side == ALL else self.edges_of(side)

    def find_table(self):
        if self.known_table is None:
            self.known_table = make_table(self)
        return self.known_table

    # For the id of each group, whether the address is in it.
    def groups_holding(self, address):
        inside = {}
        for number in sorted(self.groups):
            inside[number] = parts_hold(self.groups[number], inside, address)
        return inside


def edges_of_parts(parts, known_edges):
    edges = []
    for form, first, second in parts:
        touched = [first, second + 1] if is_range(form) else known_edges[first]
        edges = mark(edges, touched, makes_yes(form))
    return edges


def parts_hold(parts, inside, address):
    yes = False
    for form, first, second in parts:
        touched = first <= address <= second if is_range(form) else inside[first]
        if touched:
            yes = makes_yes(form)
    return yes


def is_range(form):
    return form == RANGE_IN or form == RANGE_OUT


def is_named_group(form):
    return form == GROUP_IN or form == GROUP_OUT


def makes_yes(form):
    return form == RANGE_IN or form == GROUP_IN
