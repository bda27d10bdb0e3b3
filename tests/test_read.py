"""Point 8, read: separated values as a table."""

import itertools
import random
import unittest

from tests.helpers import NAMES, SAVE, Case, get, plain_read, put, read_table, run, told_table

SEPARATORS = (9, 44, 59, 124)


def read(text, separator=44):
    return run(read_table(separator, text))[0]


class ReadCase(Case):

    def reads(self, text, rows, separator=44):
        with self.subTest(text=text, separator=separator):
            self.assertEqual(read(text, separator), told_table(rows))

    def refused(self, text, fault, place, separator=44):
        with self.subTest(text=text, separator=separator):
            self.assertEqual(read(text, separator), [-3, fault, place])


class RowsAndFields(ReadCase):

    def test_written_out(self):
        self.assertEqual(
            run([9, 1, 44, 1, 9, 97, 44, 98, 99, 10, 44, 100, 13, 10]),
            [[2, 2, 1, 97, 2, 98, 99, 2, 0, 1, 100]])

    def test_nothing(self):
        for separator in SEPARATORS:
            self.assertEqual(read("", separator), [0])

    def test_one_field(self):
        self.reads("a", [["a"]])
        self.reads("some words", [["some words"]])
        self.reads("a\n", [["a"]])
        self.reads("a\r\n", [["a"]])

    def test_one_empty_field(self):
        self.reads("\n", [[""]])
        self.reads("\r\n", [[""]])

    def test_empty_fields(self):
        self.reads(",", [["", ""]])
        self.reads(",,", [["", "", ""]])
        self.reads(",\n", [["", ""]])
        self.reads(",a,,b,", [["", "a", "", "b", ""]])
        self.reads(",\n,\r\n,", [["", ""], ["", ""], ["", ""]])

    def test_rows_end(self):
        self.reads("a\nb", [["a"], ["b"]])
        self.reads("a\r\nb", [["a"], ["b"]])
        self.reads("a\r\nb\nc\r\nd\n", [["a"], ["b"], ["c"], ["d"]])

    def test_nothing_behind_the_last_rows_end(self):
        self.reads("a,b\nc,d\n", [["a", "b"], ["c", "d"]])
        self.reads("a,b\nc,d", [["a", "b"], ["c", "d"]])
        self.reads("a,b\r\nc,d\r\n", [["a", "b"], ["c", "d"]])

    def test_rows_of_one_empty_field(self):
        self.reads("\n\n", [[""], [""]])
        self.reads("a\n\nb", [["a"], [""], ["b"]])
        self.reads("a\n\n", [["a"], [""]])
        self.reads("\na", [[""], ["a"]])
        self.reads("\r\n\r\n\n\r\n", [[""]] * 4)

    def test_a_separator_at_the_end(self):
        self.reads("a,", [["a", ""]])
        self.reads("a,b\nc,", [["a", "b"], ["c", ""]])
        self.reads('"a",', [["a", ""]])
        self.reads("a,\n", [["a", ""]])

    def test_rows_of_different_lengths(self):
        self.reads("a\nb,c\nd,e,f\n", [["a"], ["b", "c"], ["d", "e", "f"]])

    def test_every_other_byte_stands_for_itself(self):
        row = [byte for byte in range(256) if byte not in (44, 10, 13, 34)]
        self.reads(row, [[row]])

    def test_blanks_are_part_of_a_field(self):
        self.reads(" a , b \n c", [[" a ", " b "], [" c"]])


class Separators(ReadCase):

    def test_each(self):
        for separator in SEPARATORS:
            text = b"a" + bytes([separator]) + b"b" + bytes([separator]) + b"\n"
            self.reads(text, [["a", "b", ""]], separator)

    def test_another_one_is_part_of_a_field(self):
        for separator in SEPARATORS:
            others = [other for other in SEPARATORS if other != separator]
            self.reads(others, [[others]], separator)
            self.reads([separator] + others + [separator], [["", others, ""]], separator)

    def test_numbers_that_are_none(self):
        for number in list(range(256)) + [256 + 44, 300, 65536 + 9, 4294967295]:
            if number not in SEPARATORS:
                self.assertEqual(read("a,b", number), [-1])
                self.assertEqual(read("", number), [-1])

    def test_none_is_told_ahead_of_a_fault(self):
        self.assertEqual(read('"', 0), [-1])
        self.assertEqual(read("\r", 300), [-1])


class InQuotes(ReadCase):

    def test_a_field(self):
        self.reads('"a"', [["a"]])
        self.reads('"a","b"\n"c"\r\n', [["a", "b"], ["c"]])
        self.reads('a,"b",c', [["a", "b", "c"]])

    def test_an_empty_field(self):
        self.reads('""', [[""]])
        self.reads('"",""\n""', [["", ""], [""]])
        self.reads('"",', [["", ""]])

    def test_what_else_ends_a_field(self):
        self.reads('"a,b"', [["a,b"]])
        self.reads('"a\nb"', [["a\nb"]])
        self.reads('"a\rb"', [["a\rb"]])
        self.reads('"a\r\nb"', [["a\r\nb"]])
        self.reads('",","\n","\r","\r\n"\n', [[",", "\n", "\r", "\r\n"]])

    def test_each_separator(self):
        for separator in SEPARATORS:
            text = b'"' + bytes([separator]) + b'"' + bytes([separator]) + b'"x"'
            self.reads(text, [[[separator], "x"]], separator)

    def test_doubled_quotes(self):
        self.reads('""""', [['"']])
        self.reads('""""""', [['""']])
        self.reads('"a""b"', [['a"b']])
        self.reads('"""a"', [['"a']])
        self.reads('"a"""', [['a"']])
        self.reads('"a"",""b"', [['a","b']])
        self.reads('"""","""",x', [['"', '"', "x"]])

    def test_every_byte(self):
        row = [byte for byte in range(256) if byte != 34]
        self.reads([34] + row + [34], [[row]])

    def test_at_the_end_of_the_text(self):
        self.reads('a,"b"', [["a", "b"]])
        self.reads('a\n"b"', [["a"], ["b"]])

    def test_ahead_of_a_rows_end(self):
        self.reads('"a"\n', [["a"]])
        self.reads('"a"\r\n', [["a"]])
        self.reads('"a"\r\n"b"\nc', [["a"], ["b"], ["c"]])


class Faults(ReadCase):

    def test_1_a_quote_in_another_field(self):
        self.refused('a"', 1, 1)
        self.refused('a"b"', 1, 1)
        self.refused(' "a"', 1, 1)
        self.refused('x,y\nab"c', 1, 6)
        self.refused('"x",a"', 1, 5)
        self.refused('x,"y"\r\na"b",', 1, 8)

    def test_2_something_else_behind_a_closing_quote(self):
        self.refused('"a"b', 2, 3)
        self.refused('""b', 2, 2)
        self.refused('"" ', 2, 2)
        self.refused('"a" "b"', 2, 3)
        self.refused('"a""" "', 2, 5)
        self.refused('x,"y"\n"z"z\n', 2, 9)
        self.refused('x,"y";', 2, 5)

    def test_2_any_other_byte(self):
        for byte in range(256):
            if byte not in (10, 34, 44):
                self.refused([34, 97, 34, byte], 2, 3)
                self.refused([120, 10, 34, 34, byte, 98], 2, 4)

    def test_2_a_13_behind_a_closing_quote(self):
        self.refused('"a"\r', 2, 3)
        self.refused('"a"\rb', 2, 3)
        self.refused('"a"\r,', 2, 3)
        self.refused('"a"\r\r\n', 2, 3)
        self.refused('"a"\r"', 2, 3)
        self.refused('x,"a"\r', 2, 5)

    def test_3_a_13_without_a_10(self):
        self.refused("\r", 3, 0)
        self.refused("a\r", 3, 1)
        self.refused("a\rb", 3, 1)
        self.refused("\ra", 3, 0)
        self.refused("a\r\r\n", 3, 1)
        self.refused("a\r,", 3, 1)
        self.refused('a\r"', 3, 1)
        self.refused("a,\r", 3, 2)
        self.refused("a,b\r\nc\rd\r\n", 3, 6)
        self.refused('"a",\r', 3, 4)
        self.refused("a\n\r", 3, 2)
        self.refused("a\r\n\r", 3, 3)

    def test_4_a_quote_is_not_closed(self):
        self.refused('"', 4, 0)
        self.refused('"a', 4, 0)
        self.refused('"""', 4, 0)
        self.refused('"a""', 4, 0)
        self.refused('"a""b', 4, 0)
        self.refused('"a\r\nb,c\n', 4, 0)
        self.refused('a,"', 4, 2)
        self.refused('"a","b', 4, 4)
        self.refused('a\n"b""",c\r\n""""",d', 4, 11)
        self.refused('a\r\n"', 4, 3)

    def test_the_first_is_told(self):
        self.refused('a"b\rc', 1, 1)
        self.refused('a\rb"c', 3, 1)
        self.refused('"a"b"c', 2, 3)
        self.refused('a"\n"b', 1, 1)
        self.refused('a\r"b', 3, 1)
        self.refused('"a"x\n"b', 2, 3)
        self.refused('"a\rb"c"', 2, 5)

    def test_each_separator(self):
        for separator in SEPARATORS:
            between = bytes([separator])
            self.refused(b"a" + between + b'b"', 1, 3, separator)
            self.refused(b'"a"' + between + b'""x', 2, 6, separator)
            self.refused(b"a" + between + b"\r", 3, 2, separator)
            self.refused(b"a" + between + b'"' + between, 4, 2, separator)


class HowMuch(ReadCase):

    def test_65536_bytes(self):
        self.assertEqual(read([97] * 65536), told_table([[[97] * 65536]]))
        self.assertEqual(read([97] * 65537), [-1])

    def test_more_is_told_ahead_of_a_fault(self):
        self.assertEqual(read([34] + [97] * 65535), [-3, 4, 0])
        self.assertEqual(read([34] + [97] * 65536), [-1])

    def test_as_many_rows_and_fields_as_there_is_room_for(self):
        self.assertEqual(read([10] * 29000), told_table([[""]] * 29000))
        self.assertEqual(read([44] * 29000), told_table([[""] * 29001]))
        self.assertEqual(read([34] * 29000), told_table([['"' * 14499]]))
        self.assertEqual(read([34] * 28999), [-3, 4, 0])

    def test_the_parts_are_as_they_are(self):
        answered = run(put("a", "x"), SAVE, read_table(44, "a,b"), read_table(44, '"'), NAMES, get("a"), SAVE)
        self.assertEqual(answered[4:6], [[1, 1, 97], [0, 1, 120]])
        self.assertEqual(answered[6], answered[1])


class AsTheDocumentTellsIt(ReadCase):

    def test_every_short_text(self):
        for length in range(7):
            texts = [bytes(signs) for signs in itertools.product((97, 44, 10, 13, 34), repeat=length)]
            for first in range(0, len(texts), 300):
                some = texts[first:first + 300]
                answered = run(*[read_table(44, text) for text in some])
                for text, answer in zip(some, answered):
                    if answer != plain_read(44, text):
                        self.fail(f"{text!r}: {answer} is not {plain_read(44, text)}")

    def test_texts_by_chance(self):
        chance = random.Random(88)
        for attempt in range(2000):
            separator = chance.choice(SEPARATORS)
            pieces = [bytes([separator]), b"\n", b"\r\n", b'"', b'""', b'"a"', b"b", b",", b";", b"\t"]
            text = b"".join(chance.choices(pieces, k=chance.randrange(12)))
            self.assertEqual(read(text, separator), plain_read(separator, text))


if __name__ == "__main__":
    unittest.main()
