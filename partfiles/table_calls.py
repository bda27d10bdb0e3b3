"""What read and write answer."""

from partfiles.faults import TableFault
from partfiles.limits import MOST_BYTES
from partfiles.replies import NOT_TAKEN, told, told_fault
from partfiles.separated import LINE_FEED, RETURN, SEPARATORS
from partfiles.table_reading import rows_of
from partfiles.table_writing import written_table


def told_rows(rows):
    answer = [len(rows)]
    for row in rows:
        answer.append(len(row))
        for field in row:
            answer.append(len(field))
            answer.extend(field)
    return answer


def read_answer(separator, data):
    if separator not in SEPARATORS or len(data) > MOST_BYTES:
        return [NOT_TAKEN]
    try:
        return told_rows(rows_of(data, separator))
    except TableFault as e:
        return told_fault(e.fault, e.place)


def write_answer(separator, both, counts, fields):
    if separator not in SEPARATORS or 0 in counts:
        return [NOT_TAKEN]
    row_end = [RETURN, LINE_FEED] if both == 1 else [LINE_FEED]
    text = written_table(separator, row_end, counts, fields)
    if len(text) > MOST_BYTES:
        return [NOT_TAKEN]
    return told(text)
