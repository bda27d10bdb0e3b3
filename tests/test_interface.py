"""The interface: the list that is handed in and the list that is given back."""

import unittest

from partfiles.files import UnknownCall, answers
from tests.helpers import (
    BEGINS, NAMES, SAVE, Case, container_form, counted, drop, get, open_parts, pack_bytes, packed_form, part_form,
    put, read_table, run, saved, unpack_bytes, write_table,
)


class Unchanging(list):
    """A list that refuses to be changed."""

    def refuse(self, *handed):
        raise AssertionError("the list that is handed in is changed")

    append = clear = extend = insert = pop = remove = reverse = sort = refuse
    __setitem__ = __delitem__ = __iadd__ = __imul__ = refuse


GOOD = container_form(packed_form("a", "x" * 30), part_form("b", "abc"))

# Every call, some of them refused in every way.
EVERY_CALL = sum([
    put("a", "xyz" * 20), put("b", ""), SAVE, get("a"), NAMES, drop("a"), BEGINS, put("", "x"),
    open_parts(GOOD), NAMES, get("a"), open_parts(GOOD[:-1]), open_parts([]), SAVE,
    pack_bytes("abcabcabc"), pack_bytes(""), unpack_bytes(30, [0, 7, 140, 0, 0]), unpack_bytes(3, [0, 7, 140, 0, 0]),
    unpack_bytes(65537, [0, 7]), read_table(44, 'a,"b""",c\r\n,\n'), read_table(9, 'a\t"'), read_table(0, "a"),
    write_table(59, 1, [["a", "b;"], ["", '"'], ["c"]]), write_table(44, 0, [["a"], []]), write_table(1, 0, []),
    put("c", "z"), drop("b"), NAMES, SAVE,
], [])


class Interface(Case):

    def test_written_out(self):
        calls = [
            0, 0, 0,
            1, 0, 2, 1, 97, 3, 1, 2, 3,
            1, 0, 2, 2, 97, 98, 0,
            3, 0, 1, 1, 97,
            3, 0, 1, 1, 98,
            4, 0, 0,
            1, 0, 2, 0, 1, 5,
            2, 0, 1, 1, 97,
            2, 0, 1, 0,
            3, 0, 1, 2, 97, 98,
            4, 0, 0,
        ]
        self.assertEqual(answers(calls), [
            1, 0,
            1, 0,
            1, 0,
            5, 0, 3, 1, 2, 3,
            1, -2,
            6, 2, 1, 97, 2, 97, 98,
            1, -1,
            1, 0,
            1, -2,
            2, 0, 0,
            4, 1, 2, 97, 98,
        ])

    def test_the_later_calls_written_out(self):
        calls = [
            1, 0, 2, 1, 97, 1, 5,
            6, 0, 1, 10, 87, 66, 75, 49, 0, 0, 0, 0, 0, 0,
            7, 0, 1, 4, 9, 9, 9, 9,
            8, 1, 4, 1, 5, 0, 9, 128, 0, 0,
            8, 1, 3, 1, 5, 0, 9, 128, 0, 0,
            8, 1, 65537, 1, 0,
            9, 1, 44, 1, 5, 97, 44, 44, 10, 98,
            9, 1, 59, 1, 4, 97, 44, 10, 34,
            9, 1, 300, 1, 0,
            10, 2, 9, 0, 4, 2, 1, 2, 1, 97, 0, 2, 9, 34,
            10, 2, 124, 1, 3, 2, 1, 1, 0, 1, 44,
            10, 2, 44, 0, 2, 2, 1, 0, 0,
            10, 2, 44, 0, 1, 0,
            3, 0, 1, 1, 97,
        ]
        self.assertEqual(answers(calls), [
            1, 0,
            3, -3, 8, 6,
            7, 0, 5, 0, 9, 128, 0, 0,
            6, 0, 4, 9, 9, 9, 9,
            1, -3,
            1, -1,
            9, 2, 3, 1, 97, 0, 0, 1, 1, 98,
            3, -3, 4, 3,
            1, -1,
            11, 0, 9, 97, 10, 9, 34, 9, 34, 34, 34, 10,
            7, 0, 5, 13, 10, 44, 13, 10,
            1, -1,
            2, 0, 0,
            3, 0, 1, 5,
        ])

    def test_calls_of_every_sort_in_one_list(self):
        table = [["name", "words"], ["a", 'said "so"\n'], ["b", ""]]
        text = run(write_table(44, 1, table))[0][2:]
        orders = run(pack_bytes(text))[0][2:]
        answered = run(
            put("table", text), put("orders", orders), SAVE, BEGINS, read_table(44, text), NAMES,
            open_parts(saved(put("table", text), put("orders", orders))), get("table"),
            unpack_bytes(len(text), orders), NAMES, SAVE)
        self.assertEqual(answered[4][:6], [3, 2, 4, 110, 97, 109])
        self.assertEqual(answered[5:7], [[0], [2]])
        self.assertEqual(answered[7], [0] + counted(text))
        self.assertEqual(answered[8], answered[7])
        self.assertEqual(answered[9], [2, 6] + list(b"orders") + [5] + list(b"table"))
        self.assertEqual(answered[10], answered[2])

    def test_save_among_other_calls(self):
        container = saved(put("a", "x"))
        self.assertEqual(
            answers(put("a", "x") + SAVE + NAMES),
            [1, 0, len(container) + 2, 0, len(container)] + container + [3, 1, 1, 97])

    def test_what_is_handed_in_is_not_changed(self):
        calls = list(EVERY_CALL)
        answers(calls)
        self.assertEqual(calls, EVERY_CALL)

    def test_what_is_handed_in_is_not_changed_for_a_while_either(self):
        self.assertEqual(answers(Unchanging(EVERY_CALL)), answers(EVERY_CALL))

    def test_what_is_given_back_is_not_what_is_handed_in(self):
        calls = put("a", "xyz") + get("a")
        answered = answers(calls)
        answered[:] = []
        self.assertEqual(answers(calls), [1, 0, 5, 0, 3, 120, 121, 122])

    def test_a_second_time_begins_with_no_parts(self):
        self.assertEqual(run(put("a", "x"), SAVE, NAMES)[2], [1, 1, 97])
        self.assertEqual(run(NAMES, get("a"), drop("a")), [[0], [-2], [-2]])
        self.assertEqual(saved(), saved(BEGINS))

    def test_an_open_is_not_kept_for_a_second_time(self):
        self.assertEqual(run(open_parts(GOOD), NAMES)[1][0], 2)
        self.assertEqual(run(NAMES, get("a"), get("b")), [[0], [-2], [-2]])

    def test_the_same_again(self):
        self.assertEqual(answers(EVERY_CALL), answers(EVERY_CALL))

    def test_three_hundred_calls(self):
        calls = [put("a", [which % 256]) if which % 2 == 0 else get("a") for which in range(300)]
        answered = run(*calls)
        self.assertEqual(answered[0::2], [[0]] * 150)
        self.assertEqual(answered[1::2], [[0, 1, which % 256] for which in range(0, 300, 2)])

    def test_longest_list(self):
        data = [which * which % 251 for which in range(29000)]
        answered = run(put("a", data), get("a"), put("b", data[:900]), SAVE)
        self.assertEqual(answered[1], [0, 29000] + data)

    def test_many_saves_of_a_long_part(self):
        answered = run(put("a", [7] * 29000), *[SAVE] * 299)
        self.assertEqual(answered[1:], [answered[1]] * 299)

    def test_what_is_given_back_is_a_list_of_int(self):
        answered = answers(EVERY_CALL)
        self.assertIs(type(answered), list)
        self.assertEqual({type(number) for number in answered}, {int})

    def test_a_number_that_is_no_call(self):
        for number in (11, 12, 300):
            with self.assertRaises(UnknownCall):
                answers([number, 0, 0])


if __name__ == "__main__":
    unittest.main()
