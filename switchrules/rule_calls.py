"""The calls that put rules in order, and those that read them."""

from switchrules.limits import ALL, LAST_KIND, LAST_PORT, is_packet

MOST_RULES = 32


def answer_rule(switch, place, rule):
    if not 0 <= place <= len(switch.rules):
        return [-1]
    if not has_right_values(rule):
        return [-2]
    if not is_side(switch, rule[1]) or not is_side(switch, rule[2]):
        return [-3]
    if len(switch.rules) >= MOST_RULES:
        return [-4]
    switch.add_rule(place, rule)
    return [0]


def has_right_values(rule):
    passes = rule[0] == 0 or rule[0] == 1
    return passes and ALL <= rule[3] <= LAST_KIND and 0 <= rule[4] <= rule[5] <= LAST_PORT


# A side is the from or the to of a rule.
def is_side(switch, number):
    return number == ALL or number in switch.groups


def answer_norule(switch, place):
    if not stands(switch, place):
        return [-1]
    switch.drop_rule(place)
    return [0]


def answer_move(switch, place, target):
    if not stands(switch, place) or not stands(switch, target):
        return [-1]
    switch.move_rule(place, target)
    return [0]


def stands(switch, place):
    return 0 <= place < len(switch.rules)


def answer_ask(switch, source, target, kind, port):
    if not is_packet(source, target, kind, port):
        return [-1]
    with_source = switch.groups_holding(source)
    with_target = switch.groups_holding(target)
    for place, rule in enumerate(switch.rules):
        sides_fit = fits_side(rule[1], with_source) and fits_side(rule[2], with_target)
        if sides_fit and (rule[3] == ALL or rule[3] == kind) and rule[4] <= port <= rule[5]:
            return [0, rule[0], place]
    return [0, 0, -1]


def fits_side(side, holding):
    return side == ALL or holding[side]


def answer_rules(switch):
    answer = [0, len(switch.rules)]
    for rule in switch.rules:
        answer.extend(rule)
    return answer
