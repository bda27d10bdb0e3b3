"""Point 9, write: a table as separated values."""

import itertools
import random
import unittest

from tests.helpers import (
    NAMES, SAVE, Case, as_bytes, counted, get, plain_write, put, read_table, run, told_bytes, told_table, write_table,
)

SEPARATORS = (9, 44, 59, 124)


def written(rows, separator=44, both=0):
    return run(write_table(separator, both, rows))[0]


class WriteCase(Case):

    def writes(self, rows, text, separator=44, both=0):
        with self.subTest(rows=rows, separator=separator):
            self.assertEqual(written(rows, separator, both), [0] + counted(as_bytes(text)))


class RowsAndFields(WriteCase):

    def test_written_out(self):
        call = [10, 2, 44, 0, 4, 2, 1, 2, 1, 97, 2, 98, 44, 0]
        self.assertEqual(run(call), [[0, 8, 97, 10, 34, 98, 44, 34, 44, 10]])
        call[3] = 1
        self.assertEqual(run(call), [[0, 10, 97, 13, 10, 34, 98, 44, 34, 44, 13, 10]])

    def test_no_rows(self):
        for separator in SEPARATORS:
            for both in (0, 1):
                self.assertEqual(run([10, 2, separator, both, 1, 0]), [[0, 0]])

    def test_rows_of_one_empty_field(self):
        self.writes([[""]], "\n")
        self.writes([[""]], "\r\n", both=1)
        self.writes([[""], [""], [""]], "\n\n\n")
        self.writes([["a"], [""]], "a\n\n")

    def test_empty_fields(self):
        self.writes([["", ""]], ",\n")
        self.writes([["", "a", ""], ["", ""]], ",a,\n,\n")

    def test_each_row_is_ended(self):
        self.writes([["a"]], "a\n")
        self.writes([["a", "b"], ["c"]], "a,b\nc\n")
        self.writes([["a", "b"], ["c"]], "a,b\r\nc\r\n", both=1)

    def test_rows_of_different_lengths(self):
        self.writes([["a"], ["b", "c", "d"], ["e", "f"]], "a\nb,c,d\ne,f\n")

    def test_each_separator(self):
        for separator in SEPARATORS:
            self.writes([["a", "b"], ["c", ""]], [97, separator, 98, 10, 99, separator, 10], separator)


class InQuotes(WriteCase):

    def test_the_separator(self):
        for separator in SEPARATORS:
            self.writes([[[separator]]], [34, separator, 34, 10], separator)
            self.writes([[[97, separator, 98]]], [34, 97, separator, 98, 34, 10], separator)

    def test_another_separator(self):
        for separator in SEPARATORS:
            others = [other for other in SEPARATORS if other != separator]
            self.writes([[others, "x"]], others + [separator, 120, 10], separator)

    def test_a_quote(self):
        self.writes([['"']], '""""\n')
        self.writes([['a"b']], '"a""b"\n')
        self.writes([['""']], '""""""\n')
        self.writes([['"a"', "b"]], '"""a""",b\n')

    def test_10_and_13(self):
        self.writes([["\n"]], '"\n"\n')
        self.writes([["\r"]], '"\r"\n')
        self.writes([["\r\n"]], '"\r\n"\n')
        self.writes([["a\nb", "c\rd", "e\r\nf"]], '"a\nb","c\rd","e\r\nf"\n')
        self.writes([["a\nb", "c\rd", "e\r\nf"]], '"a\nb","c\rd","e\r\nf"\r\n', both=1)

    def test_wherever_it_stands_in_the_field(self):
        for sign, inside in (("\n", "\n"), ("\r", "\r"), (",", ","), ('"', '""')):
            for before, behind in (("", "xyz"), ("xyz", ""), ("x", "yz")):
                self.writes([[before + sign + behind]], '"' + before + inside + behind + '"\n')

    def test_just_the_field_that_needs_it(self):
        self.writes([["a", "b,", "c"], ["d", "e"]], 'a,"b,",c\nd,e\n')

    def test_every_byte(self):
        for byte in range(256):
            text = {34: [34, 34, 34, 34], 44: [34, 44, 34], 10: [34, 10, 34], 13: [34, 13, 34]}.get(byte, [byte])
            self.writes([[[byte]]], text + [10])

    def test_blanks_stand_as_they_are(self):
        self.writes([[" a ", " "]], " a , \n")


class Refusals(WriteCase):

    def test_numbers_that_are_no_separator(self):
        for number in list(range(256)) + [256 + 44, 300, 65536 + 9, 4294967295]:
            if number not in SEPARATORS:
                self.assertEqual(written([["a", "b"]], number), [-1])
                self.assertEqual(written([], number), [-1])

    def test_a_row_without_fields(self):
        for rows in ([[]], [[], []], [[], ["a"]], [["a"], []], [["a"], [], ["b"]], [["a", "b"], [], [""]]):
            with self.subTest(rows=rows):
                self.assertEqual(written(rows), [-1])
                self.assertEqual(written(rows, both=1), [-1])

    def test_both_at_once(self):
        self.assertEqual(written([[]], 0), [-1])
        self.assertEqual(written([[], [[97] * 70000]], 44), [-1])

    def test_the_parts_are_as_they_are(self):
        calls = [put("a", "x"), SAVE, write_table(44, 0, [["a", "b"]]), write_table(44, 0, [[]]), NAMES, get("a"), SAVE]
        answered = run(*calls)
        self.assertEqual(answered[2:6], [[0, 4, 97, 44, 98, 10], [-1], [1, 1, 97], [0, 1, 120]])
        self.assertEqual(answered[6], answered[1])


class HowMuch(WriteCase):

    def just_room(self, table, both=0):
        """table(k) has k bytes more than fit by themselves: with 0 it's 65536 bytes, with 1 it's 65537."""
        answer = written(table(0), both=both)
        self.assertEqual(answer[:2], [0, 65536])
        self.assertEqual(answer[2:], plain_write(44, both, table(0)))
        self.assertEqual(written(table(1), both=both), [-1])

    def test_one_field(self):
        self.just_room(lambda more: [[[97] * (65535 + more)]])
        self.just_room(lambda more: [[[97] * (65534 + more)]], both=1)

    def test_the_quotes_count(self):
        self.just_room(lambda more: [[[44] + [97] * (65532 + more)]])
        self.just_room(lambda more: [[[34] + [97] * (65531 + more)]])
        self.just_room(lambda more: [[[34] * 32766, [97] * more]])

    def test_separators_and_ends_count(self):
        self.just_room(lambda more: [["a"] * 1000, [[97] * (63535 + more)]])
        self.just_room(lambda more: [["a"]] * 1000 + [[[97] * (62534 + more)]], both=1)

    def test_rows_of_one_empty_field(self):
        self.assertEqual(written([[""]] * 65536), [0, 65536] + [10] * 65536)
        self.assertEqual(written([[""]] * 65537), [-1])

    def test_the_most_that_is_handed_in(self):
        rows = [['"' * 4] * 5000]
        call = write_table(124, 1, rows)
        self.assertLess(len(call), 30000)
        self.assertEqual(told_bytes(run(call)[0]), plain_write(124, 1, rows))

    def test_five_thousand_rows(self):
        rows = [["ab"]] * 5000
        self.assertEqual(told_bytes(written(rows)), as_bytes("ab\n") * 5000)


class AsTheDocumentTellsIt(WriteCase):

    def test_written_and_read(self):
        signs = [97, 44, 59, 10, 13, 34]
        fields = [list(field) for length in range(4) for field in itertools.product(signs, repeat=length)]
        for both in (0, 1):
            for separator in SEPARATORS:
                for first in range(0, len(fields), 50):
                    self.the_same_again([fields[first:first + 50], [fields[first]], [""]], separator, both)

    def test_tables_by_chance(self):
        chance = random.Random(99)
        for attempt in range(500):
            rows = []
            for row in range(chance.randrange(5)):
                fields = [chance.choices([97, 32, 9, 44, 59, 124, 10, 13, 34, 0, 255], k=chance.randrange(5))
                          for field in range(chance.randrange(1, 5))]
                rows.append(fields)
            self.the_same_again(rows, chance.choice(SEPARATORS), chance.randrange(2))

    def the_same_again(self, rows, separator, both):
        text = told_bytes(written(rows, separator, both))
        self.assertEqual(text, plain_write(separator, both, rows))
        self.assertEqual(run(read_table(separator, text))[0], told_table(rows))


if __name__ == "__main__":
    unittest.main()
