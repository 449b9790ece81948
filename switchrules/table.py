"""The table that rules become."""

from switchrules.blocks import cover_range, cover_runs
from switchrules.rows import join_rows, make_raw_rows, trim
from switchrules.thinning import thin


class Table:
    def __init__(self, too_many, raw_count, rows):
        self.too_many = too_many
        self.raw_count = raw_count
        self.rows = rows


def make_table(switch):
    raw = []
    for rule in switch.rules:
        source_edges = switch.edges_of_side(rule[1])
        target_edges = switch.edges_of_side(rule[2])
        # Blocks of one side are many at times, and for nothing where the other is empty.
        if source_edges and target_edges:
            sources = cover_runs(source_edges)
            targets = cover_runs(target_edges)
            ports = cover_range(rule[4], rule[5])
            # Counted ahead of being made: they may be millions.
            if len(raw) + len(sources) * len(targets) * len(ports) > switch.most:
                return Table(True, 0, [])
            raw.extend(make_raw_rows(rule, sources, targets, ports))
    return Table(False, len(raw), trim(thin(join_rows(thin(raw)))))
