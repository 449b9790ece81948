"""The calls that put rules in order."""

MOST_RULES = 32
LAST_KIND = 255
LAST_PORT = 65535
ALL = -1


def answer_rule(switch, place, rule):
    if not 0 <= place <= len(switch.rules):
        return [-1]
    if not has_right_values(rule):
        return [-2]
    if not is_side(switch, rule[1]) or not is_side(switch, rule[2]):
        return [-3]
    if len(switch.rules) >= MOST_RULES:
        return [-4]
    switch.rules.insert(place, rule)
    return [0]


def has_right_values(rule):
    passes = rule[0] == 0 or rule[0] == 1
    return passes and ALL <= rule[3] <= LAST_KIND and 0 <= rule[4] <= rule[5] <= LAST_PORT


# A side is the from or the to of a rule.
def is_side(switch, number):
    return number == ALL or number in switch.groups


def answer_norule(switch, place):
    if not stands(switch, place):
        return [-1]
    switch.rules.pop(place)
    return [0]


def answer_move(switch, place, target):
    if not stands(switch, place) or not stands(switch, target):
        return [-1]
    rule = switch.rules.pop(place)
    switch.rules.insert(target, rule)
    return [0]


def stands(switch, place):
    return 0 <= place < len(switch.rules)
