"""What a line of calls answers.

Calls 0 to 8 of the document are built. One of the others is refused ahead of
begin like any call, and behind it raises NotBuilt.
"""

from switchrules.group_calls import answer_group, answer_member, answer_nogroup, answer_runs, answer_size
from switchrules.reader import BEGIN, GROUP, MEMBER, MOVE, NOGROUP, NORULE, RULE, RUNS, SIZE, read_calls
from switchrules.rule_calls import answer_move, answer_norule, answer_rule
from switchrules.switch import Switch

GREATEST_MOST = 1024
NOT_BEGUN = -20


class NotBuilt(Exception):
    pass


def answers(calls):
    switch = Switch()
    given = []
    for number, numbers, parts in read_calls(calls):
        answer = answer_call(switch, number, numbers, parts)
        given.append(len(answer))
        given.extend(answer)
    return given


def answer_call(switch, number, numbers, parts):
    if number == BEGIN:
        return answer_begin(switch, numbers[0])
    if not switch.has_begun():
        return [NOT_BEGUN]
    if number == GROUP:
        return answer_group(switch, numbers[0], parts)
    if number == NOGROUP:
        return answer_nogroup(switch, numbers[0])
    if number == RULE:
        return answer_rule(switch, numbers[0], tuple(numbers[1:]))
    if number == NORULE:
        return answer_norule(switch, numbers[0])
    if number == MOVE:
        return answer_move(switch, numbers[0], numbers[1])
    if number == RUNS:
        return answer_runs(switch, numbers[0])
    if number == MEMBER:
        return answer_member(switch, numbers[0], numbers[1])
    if number == SIZE:
        return answer_size(switch, numbers[0])
    raise NotBuilt(f"call {number}")


def answer_begin(switch, most):
    if not 1 <= most <= GREATEST_MOST:
        return [-1]
    switch.begin_anew(most)
    return [0]
