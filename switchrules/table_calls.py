"""The calls that tell of the table."""

from switchrules.limits import is_packet
from switchrules.rows import find_row, list_fields, put_side_by_side


def answer_rows(switch):
    table = switch.find_table()
    if table.too_many:
        return [-1]
    return [0, table.raw_count, len(table.rows)]


def answer_row(switch, place):
    table = switch.find_table()
    if table.too_many:
        return [-1]
    if not 0 <= place < len(table.rows):
        return [-2]
    row = table.rows[place]
    answer = [0, row[0]]
    for field in list_fields(row):
        answer.extend(field)
    return answer


def answer_look(switch, source, target, kind, port):
    if not is_packet(source, target, kind, port):
        return [-2]
    table = switch.find_table()
    if table.too_many:
        return [-1]
    place = find_row(table.rows, put_side_by_side(source, target, kind, port))
    return [0, 0 if place < 0 else table.rows[place][0], place]
