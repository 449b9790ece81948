"""What a line of calls answers."""

from switchrules.block_calls import answer_blocks, answer_cover
from switchrules.group_calls import answer_group, answer_inside, answer_member, answer_nogroup
from switchrules.group_calls import answer_runs, answer_same, answer_size
from switchrules.reader import ASK, BEGIN, BLOCKS, COVER, GROUP, INSIDE, LOOK, MEMBER, MOVE
from switchrules.reader import NOGROUP, NORULE, ROW, ROWS, RULE, RUNS, SAME, SIZE, read_calls
from switchrules.rule_calls import answer_ask, answer_move, answer_norule, answer_rule, answer_rules
from switchrules.switch import Switch
from switchrules.table_calls import answer_look, answer_row, answer_rows

GREATEST_MOST = 1024
NOT_BEGUN = -20


def answers(calls):
    switch = Switch()
    given = []
    for number, numbers, parts in read_calls(calls):
        answer = answer_call(switch, number, numbers, parts)
        given.append(len(answer))
        given.extend(answer)
    return given


# The document's calls stand in this order: those that change something, those that
# ask of groups and blocks, those that ask of rules and the table.
def answer_call(switch, number, numbers, parts):
    if number == BEGIN:
        return answer_begin(switch, numbers[0])
    if not switch.has_begun():
        return [NOT_BEGUN]
    if number <= MOVE:
        return answer_change(switch, number, numbers, parts)
    if number <= INSIDE:
        return answer_of_groups(switch, number, numbers)
    return answer_of_rules(switch, number, numbers)


def answer_begin(switch, most):
    if not 1 <= most <= GREATEST_MOST:
        return [-1]
    switch.begin_anew(most)
    return [0]


def answer_change(switch, number, numbers, parts):
    if number == GROUP:
        return answer_group(switch, numbers[0], parts)
    if number == NOGROUP:
        return answer_nogroup(switch, numbers[0])
    if number == RULE:
        return answer_rule(switch, numbers[0], tuple(numbers[1:]))
    if number == NORULE:
        return answer_norule(switch, numbers[0])
    return answer_move(switch, numbers[0], numbers[1])


def answer_of_groups(switch, number, numbers):
    if number == RUNS:
        return answer_runs(switch, numbers[0])
    if number == MEMBER:
        return answer_member(switch, numbers[0], numbers[1])
    if number == SIZE:
        return answer_size(switch, numbers[0])
    if number == BLOCKS:
        return answer_blocks(switch, numbers[0])
    if number == COVER:
        return answer_cover(numbers[0], numbers[1], numbers[2])
    if number == SAME:
        return answer_same(switch, numbers[0], numbers[1])
    return answer_inside(switch, numbers[0], numbers[1])


def answer_of_rules(switch, number, numbers):
    if number == ASK:
        return answer_ask(switch, numbers[0], numbers[1], numbers[2], numbers[3])
    if number == ROWS:
        return answer_rows(switch)
    if number == ROW:
        return answer_row(switch, numbers[0])
    if number == LOOK:
        return answer_look(switch, numbers[0], numbers[1], numbers[2], numbers[3])
    return answer_rules(switch)
