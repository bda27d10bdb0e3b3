"""The interface: the list that is handed in and the list that is given back."""

import unittest

from partfiles.files import UnknownCall, answers
from tests.helpers import BEGINS, NAMES, SAVE, Case, drop, get, put, run, saved


class Unchanging(list):
    """A list that refuses to be changed."""

    def refuse(self, *handed):
        raise AssertionError("the list that is handed in is changed")

    append = clear = extend = insert = pop = remove = reverse = sort = refuse
    __setitem__ = __delitem__ = __iadd__ = __imul__ = refuse


class Interface(Case):

    def test_written_out(self):
        calls = [
            0, 0, 0,
            1, 0, 2, 1, 97, 3, 1, 2, 3,
            1, 0, 2, 2, 97, 98, 0,
            3, 0, 1, 1, 97,
            3, 0, 1, 1, 98,
            4, 0, 0,
            1, 0, 2, 0, 1, 5,
            2, 0, 1, 1, 97,
            2, 0, 1, 0,
            3, 0, 1, 2, 97, 98,
            4, 0, 0,
        ]
        self.assertEqual(answers(calls), [
            1, 0,
            1, 0,
            1, 0,
            5, 0, 3, 1, 2, 3,
            1, -2,
            6, 2, 1, 97, 2, 97, 98,
            1, -1,
            1, 0,
            1, -2,
            2, 0, 0,
            4, 1, 2, 97, 98,
        ])

    def test_save_among_other_calls(self):
        container = saved(put("a", "x"))
        self.assertEqual(
            answers(put("a", "x") + SAVE + NAMES),
            [1, 0, len(container) + 2, 0, len(container)] + container + [3, 1, 1, 97])

    def test_what_is_handed_in_is_not_changed(self):
        calls = put("a", "xyz" * 20) + put("b", "") + SAVE + get("a") + NAMES + drop("a") + BEGINS + put("", "x")
        kept = list(calls)
        answers(calls)
        self.assertEqual(calls, kept)

    def test_what_is_handed_in_is_not_changed_for_a_while_either(self):
        calls = put("a", "xyz" * 20) + put("b", "") + SAVE + get("a") + NAMES + drop("a") + BEGINS + put("", "x")
        self.assertEqual(answers(Unchanging(calls)), answers(calls))

    def test_what_is_given_back_is_not_what_is_handed_in(self):
        calls = put("a", "xyz") + get("a")
        answered = answers(calls)
        answered[:] = []
        self.assertEqual(answers(calls), [1, 0, 5, 0, 3, 120, 121, 122])

    def test_a_second_time_begins_with_no_parts(self):
        self.assertEqual(run(put("a", "x"), SAVE, NAMES)[2], [1, 1, 97])
        self.assertEqual(run(NAMES, get("a"), drop("a")), [[0], [-2], [-2]])
        self.assertEqual(saved(), saved(BEGINS))

    def test_the_same_again(self):
        calls = put("a", "x" * 40) + put("b", "y") + SAVE + drop("b") + SAVE + NAMES
        self.assertEqual(answers(calls), answers(calls))

    def test_three_hundred_calls(self):
        calls = [put("a", [which % 256]) if which % 2 == 0 else get("a") for which in range(300)]
        answered = run(*calls)
        self.assertEqual(answered[0::2], [[0]] * 150)
        self.assertEqual(answered[1::2], [[0, 1, which % 256] for which in range(0, 300, 2)])

    def test_longest_list(self):
        data = [which * which % 251 for which in range(29000)]
        answered = run(put("a", data), get("a"), put("b", data[:900]), SAVE)
        self.assertEqual(answered[1], [0, 29000] + data)

    def test_many_saves_of_a_long_part(self):
        answered = run(put("a", [7] * 29000), *[SAVE] * 299)
        self.assertEqual(answered[1:], [answered[1]] * 299)

    def test_what_is_given_back_is_a_list_of_int(self):
        answered = answers(put("a", "x" * 40) + SAVE + NAMES + get("b"))
        self.assertIs(type(answered), list)
        self.assertEqual({type(number) for number in answered}, {int})

    def test_a_number_that_is_no_call(self):
        with self.assertRaises(UnknownCall):
            answers([11, 0, 0])


if __name__ == "__main__":
    unittest.main()
