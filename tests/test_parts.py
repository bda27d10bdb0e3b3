"""Points 1 to 3, and names of point 4: the parts and their names."""

import unittest

from tests.helpers import BEGINS, NAMES, SAVE, Case, drop, get, last, put, run, told_bytes

SIXTY_FOUR = [put(f"n{which:02}", [which]) for which in range(64)]


def names_of(answer):
    """The names that an answer tells, as texts."""
    found = []
    place = 1
    while place < len(answer):
        behind = place + 1 + answer[place]
        found.append(bytes(answer[place + 1:behind]).decode("latin-1"))
        place = behind
    if len(found) != answer[0]:
        raise ValueError("not as many names as are told")
    return found


class Begins(Case):

    def test_answers_0(self):
        self.assertEqual(run(BEGINS), [[0]])

    def test_there_are_no_parts_at_first(self):
        self.assertEqual(run(NAMES, get("a")), [[0], [-2]])

    def test_there_are_no_parts_behind_it(self):
        answered = run(put("a", "x"), put("b", "y"), BEGINS, NAMES, get("a"), drop("b"))
        self.assertEqual(answered[2:], [[0], [0], [-2], [-2]])

    def test_there_is_room_again_behind_it(self):
        self.assertEqual(last(*SIXTY_FOUR, BEGINS, put("new", "x")), [0])

    def test_save_behind_it_is_that_of_no_parts(self):
        self.assertEqual(last(put("a", "x"), SAVE, BEGINS, SAVE), last(SAVE))


class Put(Case):

    def test_the_part_is_these_bytes(self):
        self.assertEqual(run(put("a", [1, 0, 255]), get("a")), [[0], [0, 3, 1, 0, 255]])

    def test_every_byte(self):
        self.assertEqual(told_bytes(last(put("a", range(256)), get("a"))), list(range(256)))

    def test_an_empty_part(self):
        self.assertEqual(run(put("a", []), get("a"), NAMES), [[0], [0, 0], [1, 1, 97]])

    def test_over_a_part_that_is_there(self):
        answered = run(put("a", "old one"), put("b", "b"), put("a", "new"), get("a"), get("b"), NAMES)
        self.assertEqual(answered[2:], [[0], [0, 3, 110, 101, 119], [0, 1, 98], [2, 1, 97, 1, 98]])

    def test_how_long_a_name_may_be(self):
        for length, answer in ((0, -1), (1, 0), (2, 0), (63, 0), (64, 0), (65, -1), (200, -1)):
            with self.subTest(length=length):
                self.assertEqual(last(put("n" * length, "x")), [answer])

    def test_the_bytes_of_a_name(self):
        for byte in range(256):
            answer = 0 if 33 <= byte <= 126 else -1
            for name in ([byte], [byte, 65, 65], [65, byte, 65], [65, 65, byte]):
                with self.subTest(name=name):
                    self.assertEqual(last(put(name, "x")), [answer])

    def test_longest_name_is_kept_whole(self):
        name = list(range(33, 97))
        self.assertEqual(last(put(name, "x"), NAMES), [1, 64] + name)

    def test_no_name_changes_nothing(self):
        for name in ([], [32], [65, 127], [65] * 65):
            with self.subTest(name=name):
                answered = run(put("A", "x"), put(name, "y"), NAMES, get("A"), get(name))
                self.assertEqual(answered[1:], [[-1], [1, 1, 65], [0, 1, 120], [-2]])

    def test_how_many_bytes_a_part_may_have(self):
        self.assertEqual(last(put("a", [7] * 29000)), [0])
        self.assertEqual(last(put("a", [7] * 65536)), [0])
        self.assertEqual(last(put("a", [7] * 65537)), [-1])

    def test_too_many_bytes_leave_the_part_that_is_there(self):
        self.assertEqual(run(put("a", "x"), put("a", [7] * 65537), get("a"))[1:], [[-1], [0, 1, 120]])

    def test_sixty_four_parts(self):
        answered = run(*SIXTY_FOUR, NAMES)
        self.assertEqual(answered[:64], [[0]] * 64)
        self.assertEqual(names_of(answered[64]), [f"n{which:02}" for which in range(64)])

    def test_a_sixty_fifth_name(self):
        answered = run(*SIXTY_FOUR, put("other", "x"), get("other"), NAMES)
        self.assertEqual(answered[64:66], [[-5], [-2]])
        self.assertEqual(names_of(answered[66]), [f"n{which:02}" for which in range(64)])

    def test_one_of_the_sixty_four(self):
        answered = run(*SIXTY_FOUR, put("n63", "x"), get("n63"), put("n00", ""), get("n00"))
        self.assertEqual(answered[64:], [[0], [0, 1, 120], [0], [0, 0]])

    def test_no_name_is_told_ahead_of_too_many(self):
        self.assertEqual(last(*SIXTY_FOUR, put("", "x")), [-1])
        self.assertEqual(last(*SIXTY_FOUR, put([127], "x")), [-1])
        self.assertEqual(last(*SIXTY_FOUR, put("other", [7] * 65537)), [-1])

    def test_there_is_room_behind_a_drop(self):
        answered = run(*SIXTY_FOUR, drop("n31"), put("other", "x"), put("n31", "x"))
        self.assertEqual(answered[64:], [[0], [0], [-5]])


class DropAndGet(Case):

    def test_drop_takes_the_part_away(self):
        answered = run(put("a", "x"), put("b", "y"), drop("a"), get("a"), get("b"), NAMES)
        self.assertEqual(answered[2:], [[0], [-2], [0, 1, 121], [1, 1, 98]])

    def test_drop_a_second_time(self):
        self.assertEqual(run(put("a", "x"), drop("a"), drop("a")), [[0], [0], [-2]])

    def test_put_behind_a_drop(self):
        self.assertEqual(last(put("a", "x"), drop("a"), put("a", "y"), get("a")), [0, 1, 121])

    def test_get_changes_nothing(self):
        answered = run(put("a", "x"), get("a"), get("a"), NAMES)
        self.assertEqual(answered[1:], [[0, 1, 120], [0, 1, 120], [1, 1, 97]])

    def test_a_name_that_is_not_there(self):
        for name in ("b", "A", "aa", "ab", "n" * 64):
            with self.subTest(name=name):
                answered = run(put("a", "x"), put("abc", "y"), drop(name), get(name), NAMES)
                self.assertEqual(answered[2:], [[-2], [-2], [2, 1, 97, 3, 97, 98, 99]])

    def test_one_that_is_no_name(self):
        for name in ([], [32], [127], [0], [255], [97, 32], [97] * 65, [97] * 200):
            with self.subTest(name=name):
                answered = run(put("a", "x"), drop(name), get(name), NAMES)
                self.assertEqual(answered[1:], [[-2], [-2], [1, 1, 97]])


class Names(Case):

    def test_none(self):
        self.assertEqual(run(NAMES), [[0]])

    def test_each_behind_how_many_bytes(self):
        self.assertEqual(last(put("bc", ""), put("a", "x"), NAMES), [2, 1, 97, 2, 98, 99])

    def test_in_order_byte_by_byte(self):
        in_order = ["!", "!~", "0", "10", "9", "A", "B", "Z", "a", "a!", "aa", "aaa", "ab", "b", "ba", "~", "~!"]
        for handed in (in_order, in_order[::-1], in_order[1::2] + in_order[0::2]):
            calls = [put(name, "x") for name in handed]
            self.assertEqual(names_of(last(*calls, NAMES)), in_order)

    def test_one_that_another_begins_with_is_first(self):
        self.assertEqual(names_of(last(put("part.a", ""), put("part", ""), NAMES)), ["part", "part.a"])


if __name__ == "__main__":
    unittest.main()
