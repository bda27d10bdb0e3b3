"""Separated values read as a table: rows of fields, or the first fault and its place."""

from partfiles.faults import TableFault
from partfiles.separated import LINE_FEED, QUOTE, RETURN

QUOTE_IN_FIELD = 1
BEHIND_QUOTES = 2
RETURN_ALONE = 3
NOT_CLOSED = 4


class ReadField:

    def __init__(self, data, behind):
        self.data = data
        self.behind = behind


def stands_at(data, place, byte):
    return place < len(data) and data[place] == byte


# How many bytes of a row's end are at this place: 0 where it's none.
def row_end_length(data, place):
    if stands_at(data, place, LINE_FEED):
        return 1
    if stands_at(data, place, RETURN) and stands_at(data, place + 1, LINE_FEED):
        return 2
    return 0


def may_be_behind_field(data, place, separator):
    if place >= len(data) or data[place] == separator:
        return True
    return row_end_length(data, place) > 0


def quoted_field(data, opening):
    field = []
    place = opening + 1
    while place < len(data):
        if data[place] == QUOTE:
            if not stands_at(data, place + 1, QUOTE):
                return ReadField(field, place + 1)
            place = place + 1
        field.append(data[place])
        place = place + 1
    raise TableFault(NOT_CLOSED, opening)


def plain_field(data, begins, separator):
    place = begins
    while place < len(data) and data[place] not in (separator, LINE_FEED, RETURN, QUOTE):
        place = place + 1
    return ReadField(data[begins:place], place)


def field_at(data, place, separator):
    if stands_at(data, place, QUOTE):
        field = quoted_field(data, place)
        if not may_be_behind_field(data, field.behind, separator):
            raise TableFault(BEHIND_QUOTES, field.behind)
        return field
    field = plain_field(data, place, separator)
    if stands_at(data, field.behind, QUOTE):
        raise TableFault(QUOTE_IN_FIELD, field.behind)
    if not may_be_behind_field(data, field.behind, separator):
        raise TableFault(RETURN_ALONE, field.behind)
    return field


def rows_of(data, separator):
    rows = []
    row = []
    place = 0
    while place < len(data) or len(row) > 0:
        field = field_at(data, place, separator)
        row.append(field.data)
        place = field.behind
        if stands_at(data, place, separator):
            place = place + 1
        else:
            rows.append(row)
            row = []
            place = place + row_end_length(data, place)
    return rows
