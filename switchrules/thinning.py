"""Thinning: rows are left out that one before them covers.

The rows that were kept are filed by their fields, one behind another. A file is a
dict: each mask of a field leads to the values under it, and each of these to the
file of the next field. So of a thousand rows only those are gone on with that
cover a row in the fields so far.
"""

from switchrules.rows import list_fields


def thin(rows):
    kept = []
    filed = {}
    for row in rows:
        fields = list_fields(row)
        if not is_covered(fields, filed):
            kept.append(row)
            file_fields(fields, filed)
    return kept


def file_fields(fields, filed):
    inner = filed
    for value, mask in fields:
        by_value = inner.setdefault(mask, {})
        inner = by_value.setdefault(value, {})


def is_covered(fields, filed):
    files = [filed]
    for value, mask in fields:
        files = covering_files(files, value, mask)
    return len(files) > 0


# The files of the next field, behind the filed fields that cover this one.
def covering_files(files, value, mask):
    found = []
    for filed in files:
        for other, by_value in filed.items():
            if other & mask == other and (value & other) in by_value:
                found.append(by_value[value & other])
    return found
