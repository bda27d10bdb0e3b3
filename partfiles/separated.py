"""The bytes that separate a table's fields and rows."""

SEPARATORS = (9, 44, 59, 124)
LINE_FEED = 10
RETURN = 13
QUOTE = 34
