"""A table written as separated values."""

from partfiles.separated import LINE_FEED, QUOTE, RETURN


def needs_quotes(field, separator):
    return separator in field or QUOTE in field or LINE_FEED in field or RETURN in field


def in_quotes(field):
    quoted = [QUOTE]
    for byte in field:
        if byte == QUOTE:
            quoted.append(QUOTE)
        quoted.append(byte)
    quoted.append(QUOTE)
    return quoted


def written_field(field, separator):
    if needs_quotes(field, separator):
        return in_quotes(field)
    return field


def written_row(fields, separator):
    text = []
    for which, field in enumerate(fields):
        if which > 0:
            text.append(separator)
        text.extend(written_field(field, separator))
    return text


def written_table(separator, row_end, counts, fields):
    text = []
    first = 0
    for count in counts:
        text.extend(written_row(fields[first:first + count], separator))
        text.extend(row_end)
        first = first + count
    return text
