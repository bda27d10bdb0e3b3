"""Point 5, open: a container read strictly."""

import random
import unittest

from tests.helpers import (
    BEGINS, NAMES, SAVE, Case, as_bytes, container_form, counted, drop, get, last, open_parts, packed_form,
    part_form, put, run, run_orders, saved,
)

KEPT = [put("kept", "as it was"), put("zero", [0] * 40)]
KEPT_ANSWERS = run(*KEPT, NAMES, get("kept"), get("zero"), SAVE)[2:]

# "ab" stands at 6, its name ends at 9, what stands here begins at 22 and ends at 25, where "b" stands.
AB = part_form("ab", "abc")
AFTER_AB = 25

# A run of seven packs to orders of five bytes.
SEVEN = [7] * 7
ORDERS = [0, 7, 131, 0, 0]


def opened(*parts):
    return run(open_parts(container_form(*parts)))[0]


def looked_at(*calls, names):
    """Behind these calls: the names, each part, and what is saved."""
    return run(*calls, NAMES, *[get(name) for name in names], SAVE)[len(calls):]


class OpenCase(Case):

    def refused(self, data, fault, place):
        """The container is refused with this fault at this place, and the parts are as they were."""
        answered = run(*KEPT, open_parts(data), NAMES, get("kept"), get("zero"), SAVE)[2:]
        self.assertEqual(answered[0], [-3, fault, place])
        self.assertEqual(answered[1:], KEPT_ANSWERS)

    def taken(self, data, parts):
        """The container is taken, and holds just these parts (names in order)."""
        names = [name for name, content in parts]
        answered = run(*KEPT, open_parts(data), NAMES, *[get(name) for name in names], SAVE)[2:]
        self.assertEqual(answered[0], [len(parts)])
        told = [number for name in names for number in counted(as_bytes(name))]
        self.assertEqual(answered[1], [len(parts)] + told)
        for answer, (name, content) in zip(answered[2:], parts):
            self.assertEqual(answer, [0] + counted(as_bytes(content)))
        self.assertEqual(answered[-1][2:], saved(*[put(name, content) for name, content in parts]))


class WhatIsSaved(OpenCase):

    def opened_as_saved(self, parts):
        self.taken(saved(*[put(name, content) for name, content in parts]), parts)

    def test_no_parts(self):
        self.opened_as_saved([])
        self.assertEqual(run(open_parts(saved())), [[0]])

    def test_one_part(self):
        self.opened_as_saved([("a", "some bytes")])

    def test_one_part_that_is_packed(self):
        self.opened_as_saved([("a", "some bytes" * 50)])

    def test_empty_parts(self):
        self.opened_as_saved([("a", "")])
        self.opened_as_saved([("a", ""), ("b", ""), ("c", "x"), ("d", "")])

    def test_packed_and_not_packed(self):
        self.opened_as_saved([("!", "x" * 300), ("a", "abc"), ("a!", [0] * 6), ("b", range(256)), ("~", "xyz" * 99)])

    def test_longest_name(self):
        self.opened_as_saved([("n" * 63, "x"), ("n" * 64, "y")])

    def test_sixty_four_parts(self):
        self.opened_as_saved([(f"n{which:02}", [which] * which) for which in range(64)])

    def test_sixty_four_empty_parts(self):
        self.opened_as_saved([(f"n{which:02}", []) for which in range(64)])

    def test_longest_part(self):
        self.opened_as_saved([("a", [9] * 65536), ("b", "x")])

    def test_longest_part_that_is_not_packed(self):
        chance = random.Random(5)
        self.opened_as_saved([("a", [chance.randrange(256) for which in range(65536)])])

    def test_parts_by_chance(self):
        chance = random.Random(55)
        for attempt in range(30):
            names = sorted({"".join(chance.choices("!abz~", k=chance.randrange(1, 5))) for which in range(9)})
            signs = chance.choice((1, 2, 3, 256))
            self.opened_as_saved(
                [(name, [chance.randrange(signs) for which in range(chance.randrange(60))]) for name in names])


class WhatMayStandInAContainer(OpenCase):

    def test_written_out(self):
        data = [87, 66, 75, 49, 1, 0, 2, 97, 98, 0, 3, 0, 0, 0, 3, 0, 0, 0, 0xC2, 0x41, 0x24, 0x35, 97, 98, 99]
        data += [224, 217, 114, 20]
        self.assertEqual(data, container_form(AB))
        self.assertEqual(run(open_parts(data), get("ab"), NAMES), [[1], [0, 3, 97, 98, 99], [1, 2, 97, 98]])

    def test_not_packed_though_that_is_shorter(self):
        self.taken(container_form(part_form("a", [7] * 50)), [("a", [7] * 50)])

    def test_packed_though_that_is_longer(self):
        self.taken(container_form(packed_form("a", "abc")), [("a", "abc")])
        self.taken(container_form(packed_form("a", [])), [("a", [])])

    def test_packed_in_another_way(self):
        for orders in ([6] + SEVEN, [0, 7] * 7, [2, 7, 7, 7, 128, 2, 0, 0, 7], [0, 7, 128, 0, 0, 128, 1, 0]):
            with self.subTest(orders=orders):
                self.taken(container_form(packed_form("a", SEVEN, stands=orders)), [("a", SEVEN)])

    def test_a_distance_above_4096(self):
        row = [1, 2, 3] + [9] * 5000
        orders = [2, 1, 2, 3] + run_orders(9, 5000) + [128] + [5002 % 256, 5002 // 256]
        self.taken(container_form(packed_form("a", row + [1, 2, 3], stands=orders)), [("a", row + [1, 2, 3])])


class TheContainer(OpenCase):

    def test_1_it_does_not_begin_with_the_four_bytes(self):
        good = container_form(AB)
        for place in range(4):
            for other in (good[place] - 1, good[place] + 1, 0, 255):
                self.refused(good[:place] + [other] + good[place + 1:], 1, 0)

    def test_1_fewer_than_four_bytes(self):
        for length in range(4):
            self.refused(as_bytes("WBK1")[:length], 1, 0)

    def test_1_is_told_whatever_is_behind(self):
        self.refused(as_bytes("WBK2"), 1, 0)
        self.refused(as_bytes("1KBW") + container_form(AB), 1, 0)
        self.refused([0] + container_form(AB), 1, 0)

    def test_2_fewer_than_two_bytes_behind(self):
        self.refused(as_bytes("WBK1"), 2, 4)
        self.refused(as_bytes("WBK1") + [1], 2, 4)
        self.refused(as_bytes("WBK1") + [255], 2, 4)

    def test_10_more_than_64_parts(self):
        parts = [part_form(f"n{which:02}", "") for which in range(65)]
        self.refused(container_form(*parts), 10, 4)
        self.refused(container_form(AB, count=65), 10, 4)
        self.refused(container_form(AB, count=256), 10, 4)
        self.refused(container_form(AB, count=65535), 10, 4)
        self.refused(as_bytes("WBK1") + [65, 0], 10, 4)

    def test_64_parts_are_not_too_many(self):
        self.refused(as_bytes("WBK1") + [64, 0], 2, 6)

    def test_the_count_has_the_lowest_byte_first(self):
        self.refused(as_bytes("WBK1") + [0, 1], 10, 4)


class TheName(OpenCase):

    def test_2_nothing_is_there(self):
        self.refused(as_bytes("WBK1") + [1, 0], 2, 6)
        self.refused(as_bytes("WBK1") + [2, 0] + AB, 2, AFTER_AB)

    def test_2_not_the_whole_name(self):
        self.refused(as_bytes("WBK1") + [1, 0, 1], 2, 6)
        self.refused(as_bytes("WBK1") + [1, 0, 2, 97], 2, 6)
        self.refused(as_bytes("WBK1") + [1, 0, 64] + [97] * 63, 2, 6)
        self.refused(as_bytes("WBK1") + [2, 0] + AB + [3, 97, 98], 2, AFTER_AB)

    def test_2_is_told_ahead_of_3(self):
        self.refused(as_bytes("WBK1") + [1, 0, 65] + [97] * 64, 2, 6)
        self.refused(as_bytes("WBK1") + [1, 0, 255, 0], 2, 6)
        self.refused(as_bytes("WBK1") + [1, 0, 2, 32], 2, 6)

    def test_3_no_bytes(self):
        self.refused(container_form(part_form("", "abc")), 3, 6)
        self.refused(as_bytes("WBK1") + [1, 0, 0], 3, 6)
        self.refused(container_form(AB, part_form("", "abc")), 3, AFTER_AB)

    def test_3_more_than_64_bytes(self):
        self.refused(container_form(part_form("n" * 65, "abc")), 3, 6)
        self.refused(container_form(part_form("n" * 255, "abc")), 3, 6)

    def test_3_a_byte_that_no_name_has(self):
        for byte in list(range(33)) + list(range(127, 256)):
            for name in ([byte], [byte, 65], [65, byte]):
                self.refused(container_form(part_form(name, "x")), 3, 6)
        self.refused(container_form(AB, part_form("c d", "x")), 3, AFTER_AB)

    def test_every_byte_that_a_name_has(self):
        for byte in range(33, 127):
            self.assertEqual(opened(part_form([byte], "x"), part_form([byte, byte], "x")), [2])

    def test_3_is_told_ahead_of_4(self):
        self.refused(container_form(AB, part_form("a ", "x")), 3, AFTER_AB)
        self.refused(container_form(AB, part_form("", "x")), 3, AFTER_AB)

    def test_4_the_same_name(self):
        self.refused(container_form(AB, AB), 4, AFTER_AB)
        self.refused(container_form(AB, part_form("ab", "other")), 4, AFTER_AB)

    def test_4_a_name_that_comes_before(self):
        for name in ("a", "aa", "aaz", "Z", "!", "aB"):
            self.refused(container_form(AB, part_form(name, "x")), 4, AFTER_AB)

    def test_4_further_on(self):
        third = AFTER_AB + len(part_form("b", "x"))
        self.refused(container_form(AB, part_form("b", "x"), part_form("b", "x")), 4, third)
        self.refused(container_form(AB, part_form("b", "x"), part_form("ac", "x")), 4, third)

    def test_a_name_that_comes_behind(self):
        for name in ("ab!", "aba", "ac", "b", "b!", "~"):
            self.assertEqual(opened(AB, part_form(name, "x")), [2])

    def test_4_is_told_ahead_of_2(self):
        self.refused(as_bytes("WBK1") + [2, 0] + AB + [2, 97, 98], 4, AFTER_AB)


class TheHead(OpenCase):

    def test_2_not_all_13_bytes(self):
        for length in range(13):
            self.refused(as_bytes("WBK1") + [1, 0] + AB[:3 + length], 2, 9)
            self.refused(as_bytes("WBK1") + [2, 0] + AB + part_form("b", "")[:2 + length], 2, AFTER_AB + 2)

    def test_2_is_told_ahead_of_5_and_10(self):
        self.refused(as_bytes("WBK1") + [1, 0, 1, 97, 2], 2, 8)
        self.refused(as_bytes("WBK1") + [1, 0, 1, 97] + [255] * 12, 2, 8)

    def test_5_neither_0_nor_1(self):
        for packed in (2, 3, 128, 255):
            self.refused(container_form(part_form("ab", "abc", packed=packed)), 5, 9)
            self.refused(container_form(AB, part_form("b", "abc", packed=packed)), 5, AFTER_AB + 2)

    def test_5_is_told_ahead_of_10(self):
        self.refused(container_form(part_form("ab", "abc", packed=2, length=65537)), 5, 9)
        self.refused(as_bytes("WBK1") + [1, 0, 1, 97] + [255] * 13, 5, 8)

    def test_10_longer_than_65536(self):
        for long in (65537, 65538, 131072, 2 ** 24, 2 ** 31, 2 ** 32 - 1):
            for packed in (0, 1):
                for other in ({"length": long}, {"here": long}, {"length": long, "here": long}):
                    self.refused(container_form(part_form("ab", "abc", packed=packed, **other)), 10, 10)
                    part = part_form("b", "abc", packed=packed, **other)
                    self.refused(container_form(AB, part), 10, AFTER_AB + 3)

    def test_10_with_all_that_stands_here(self):
        self.refused(container_form(part_form("a", [9] * 65537)), 10, 9)
        self.refused(container_form(packed_form("a", [9] * 65537, stands=run_orders(9, 65537))), 10, 9)
        self.refused(container_form(packed_form("a", [9] * 32769, stands=[0, 9] * 32769)), 10, 9)

    def test_lengths_of_65536(self):
        row = [9] * 65536
        self.taken(container_form(part_form("a", row)), [("a", row)])
        self.taken(container_form(packed_form("a", row, stands=run_orders(9, 65536))), [("a", row)])
        row = [9] * 32768
        self.taken(container_form(packed_form("a", row, stands=[0, 9] * 32768)), [("a", row)])

    def test_10_is_told_ahead_of_2(self):
        self.refused(as_bytes("WBK1") + [1, 0] + part_form("a", "", length=65537, here=9), 10, 9)

    def test_a_length_of_65536_is_not_too_long(self):
        self.refused(container_form(part_form("ab", "abc", length=65536, here=65536)), 2, 22)


class WhatStandsHere(OpenCase):

    def test_2_not_all(self):
        self.refused(as_bytes("WBK1") + [1, 0] + AB[:-1], 2, 22)
        self.refused(as_bytes("WBK1") + [1, 0] + AB[:-3], 2, 22)
        self.refused(as_bytes("WBK1") + [2, 0] + AB + part_form("b", "xyz")[:-1], 2, AFTER_AB + 15)

    def test_2_the_bytes_of_the_sum_count_too(self):
        self.refused(container_form(part_form("ab", "abc", here=8)), 2, 22)
        self.refused(container_form(part_form("ab", "abc", here=7)), 6, 22)

    def test_2_is_told_ahead_of_6(self):
        self.refused(container_form(part_form("ab", "abc", length=99, here=8)), 2, 22)
        self.refused(container_form(part_form("ab", "abc", packed=1, here=8)), 2, 22)

    def test_6_not_packed_the_lengths_differ(self):
        for length in (0, 2, 4, 259, 65536):
            self.refused(container_form(part_form("ab", "abc", length=length)), 6, 22)
            self.refused(container_form(AB, part_form("b", "abc", length=length)), 6, AFTER_AB + 15)

    def test_6_orders_end_in_the_middle(self):
        for orders in ([0], [1, 7], [127], [0, 7, 131], [0, 7, 131, 0], [0, 7, 131, 0, 0, 0], [0, 7, 131, 0, 0, 255]):
            with self.subTest(orders=orders):
                self.refused(container_form(packed_form("ab", SEVEN, stands=orders)), 6, 22)

    def test_6_led_back_before_the_beginning(self):
        for orders in ([0, 7, 131, 1, 0], [128, 0, 0], [0, 7, 131, 0, 1], [0, 7, 131, 255, 255]):
            with self.subTest(orders=orders):
                self.refused(container_form(packed_form("ab", SEVEN, stands=orders)), 6, 22)

    def test_6_more_comes(self):
        for length in (0, 1, 6):
            self.refused(container_form(packed_form("ab", SEVEN, length=length)), 6, 22)
        self.refused(container_form(packed_form("ab", SEVEN, stands=ORDERS + [0, 7])), 6, 22)
        self.refused(container_form(packed_form("ab", SEVEN, stands=[0, 7] + [255, 0, 0] * 9000)), 6, 22)

    def test_6_fewer_come(self):
        for length in (8, 9, 263, 65536):
            self.refused(container_form(packed_form("ab", SEVEN, length=length)), 6, 22)
        self.refused(container_form(packed_form("ab", SEVEN, stands=[])), 6, 22)

    def test_6_further_on(self):
        self.refused(container_form(AB, packed_form("b", SEVEN, length=8)), 6, AFTER_AB + 15)
        self.refused(container_form(AB, packed_form("b", SEVEN, stands=[128])), 6, AFTER_AB + 15)

    def test_6_is_told_ahead_of_7(self):
        self.refused(container_form(part_form("ab", "abc", length=4, own_sum=1)), 6, 22)
        self.refused(container_form(packed_form("ab", SEVEN, length=8, own_sum=1)), 6, 22)
        self.refused(container_form(packed_form("ab", SEVEN, stands=[128], own_sum=1)), 6, 22)

    def test_the_two_lengths_of_a_packed_part_differ(self):
        self.taken(container_form(packed_form("ab", SEVEN)), [("ab", SEVEN)])

    def test_the_two_lengths_of_a_packed_part_are_the_same(self):
        self.taken(container_form(packed_form("ab", [5] * 5)), [("ab", [5] * 5)])


class TheSums(OpenCase):

    def test_7_the_sum_of_the_part(self):
        for bit in range(32):
            own_sum = 0x352441C2 ^ 1 << bit
            self.refused(container_form(part_form("ab", "abc", own_sum=own_sum)), 7, 18)
        self.refused(container_form(AB, part_form("b", "abc", own_sum=0)), 7, AFTER_AB + 11)
        self.refused(container_form(part_form("ab", "", own_sum=1)), 7, 18)

    def test_7_the_sum_is_of_the_part_unpacked(self):
        self.refused(container_form(packed_form("ab", SEVEN, own_sum=0)), 7, 18)
        own_sum = int.from_bytes(bytes(part_form("x", ORDERS)[11:15]), "little")
        self.refused(container_form(packed_form("ab", SEVEN, own_sum=own_sum)), 7, 18)

    def test_7_is_told_ahead_of_what_is_behind(self):
        self.refused(container_form(part_form("ab", "abc", own_sum=1), other_sum=1), 7, 18)
        self.refused(as_bytes("WBK1") + [1, 0] + part_form("ab", "abc", own_sum=1), 7, 18)
        self.refused(container_form(part_form("ab", "abc", own_sum=1), part_form("a", "x")), 7, 18)

    def test_2_fewer_than_four_bytes(self):
        for length in range(4):
            self.refused(container_form(AB)[:AFTER_AB + length], 2, AFTER_AB)
            self.refused(container_form()[:6 + length], 2, 6)

    def test_8_the_sum_of_all(self):
        for bit in range(32):
            self.refused(container_form(AB, other_sum=1 << bit), 8, AFTER_AB)
        self.refused(container_form(other_sum=1), 8, 6)

    def test_8_is_told_ahead_of_9(self):
        self.refused(container_form(AB, other_sum=1, behind=[0]), 8, AFTER_AB)

    def test_9_something_is_behind(self):
        for behind in ([0], [255], [0] * 100, container_form(AB)):
            self.refused(container_form(AB, behind=behind), 9, AFTER_AB + 4)
            self.refused(container_form(behind=behind), 9, 10)

    def test_fewer_parts_are_told_than_there_are(self):
        self.refused(container_form(AB, count=0), 8, 6)
        self.refused(container_form(AB, part_form("b", ""), count=1), 8, AFTER_AB)

    def test_more_parts_are_told_than_there_are(self):
        # The sum is read as the second part: its first byte tells a name longer than the three behind it.
        data = container_form(part_form("ab", "x"), count=2)
        self.assertGreater(data[AFTER_AB - 2], 3)
        self.refused(data, 2, AFTER_AB - 2)


class FaultsOfTwoParts(OpenCase):

    def test_the_first_parts_is_told(self):
        faulty = [
            (part_form("ab", "abc", packed=2), 5, 9),
            (part_form("ab", "abc", here=70000), 10, 10),
            (part_form("ab", "abc", length=2), 6, 22),
            (part_form("ab", "abc", own_sum=2), 7, 18),
        ]
        for first, fault, place in faulty:
            for second, second_fault, second_place in faulty:
                self.refused(container_form(first, second), fault, place)
        for second, fault, place in faulty:
            before = part_form("aa", "abc")
            self.refused(container_form(before, second), fault, place + len(before))


class EveryBeginningAndEveryOtherByte(OpenCase):

    PARTS = (("ab", "abc"), ("b", SEVEN), ("c!", ""))

    def good(self):
        return saved(*[put(name, content) for name, content in self.PARTS])

    def test_every_shorter_beginning(self):
        good = self.good()
        self.assertEqual(run(open_parts(good)), [[3]])
        wanted = [(1, 0)] * 4 + [(2, 4)] * 2
        for name, here in ((2, 3), (1, 5), (2, 0)):
            place = len(wanted)
            wanted += [(2, place)] * (1 + name) + [(2, place + 1 + name)] * 13 + [(2, place + 14 + name)] * here
        wanted += [(2, len(wanted))] * 4
        self.assertEqual(len(good), len(wanted))
        for length, (fault, place) in enumerate(wanted):
            self.refused(good[:length], fault, place)

    def test_one_byte_made_another(self):
        good = self.good()
        for place in range(len(good)):
            for other in range(256):
                if other != good[place]:
                    answer = run(open_parts(good[:place] + [other] + good[place + 1:]))[0]
                    self.assertEqual((len(answer), answer[0]), (3, -3))
                    self.assertLessEqual(answer[2], len(good))

    def test_one_byte_made_another_leaves_the_parts(self):
        good = self.good()
        for place in range(len(good)):
            calls = [*KEPT, open_parts(good[:place] + [good[place] ^ 1] + good[place + 1:])]
            self.assertEqual(looked_at(*calls, names=("kept", "zero")), KEPT_ANSWERS)


class BehindAnOpen(OpenCase):

    CONTAINER = container_form(AB, packed_form("kept", SEVEN))

    def test_the_new_parts_alone(self):
        answered = run(*KEPT, open_parts(self.CONTAINER), NAMES, get("ab"), get("kept"), get("zero"), drop("zero"))
        self.assertEqual(answered[2:], [
            [2], [2, 2, 97, 98, 4, 107, 101, 112, 116], [0, 3, 97, 98, 99], [0, 7] + SEVEN, [-2], [-2]])

    def test_put_and_drop(self):
        calls = [*KEPT, open_parts(self.CONTAINER), put("ab", "new"), drop("kept"), put("more", "x")]
        self.assertEqual(run(*calls)[3:], [[0], [0], [0]])
        self.assertEqual(
            looked_at(*calls, names=("ab", "more")),
            looked_at(put("ab", "new"), put("more", "x"), names=("ab", "more")))

    def test_save_is_that_of_the_new_parts(self):
        again = saved(*KEPT, SAVE, open_parts(self.CONTAINER))
        self.assertEqual(again, saved(put("ab", "abc"), put("kept", SEVEN)))

    def test_save_packs_where_that_is_shorter(self):
        data = container_form(part_form("a", [7] * 50), packed_form("b", "abc"))
        self.assertEqual(saved(open_parts(data)), saved(put("a", [7] * 50), put("b", "abc")))

    def test_no_parts(self):
        self.assertEqual(run(*KEPT, open_parts(saved()), NAMES, get("kept"))[2:], [[0], [0], [-2]])
        self.assertEqual(saved(*KEPT, open_parts(saved())), saved())

    def test_there_is_room_for_64(self):
        full = container_form(*[part_form(f"n{which:02}", "") for which in range(64)])
        answered = run(*KEPT, open_parts(full), put("other", "x"), put("n00", "x"), drop("n63"), put("other", "x"))
        self.assertEqual(answered[2:], [[64], [-5], [0], [0], [0]])
        self.assertEqual(last(open_parts(full), open_parts(saved()), put("other", "x")), [0])

    def test_begins(self):
        self.assertEqual(run(open_parts(self.CONTAINER), BEGINS, NAMES, get("ab"))[1:], [[0], [0], [-2]])

    def test_again_and_again(self):
        other = container_form(part_form("x", "y"))
        answered = run(open_parts(self.CONTAINER), open_parts(other), NAMES, open_parts(self.CONTAINER), NAMES)
        self.assertEqual(answered[1:3], [[1], [1, 1, 120]])
        self.assertEqual(answered[3:], [[2], [2, 2, 97, 98, 4, 107, 101, 112, 116]])

    def test_a_refusal_between(self):
        bad = open_parts(container_form(part_form("x", "y"), part_form("x", "y")))
        answered = run(open_parts(self.CONTAINER), bad, NAMES, get("ab"), get("x"))
        self.assertEqual(answered[1:], [
            [-3, 4, 22], [2, 2, 97, 98, 4, 107, 101, 112, 116], [0, 3, 97, 98, 99], [-2]])

    def test_many_long_parts(self):
        parts = [(f"n{which:02}", [which] * 65536) for which in range(18)]
        forms = [packed_form(name, content, stands=run_orders(content[0], 65536)) for name, content in parts]
        data = container_form(*forms)
        self.assertLess(len(data), 29000)
        answered = run(open_parts(data), get("n17"), SAVE)
        self.assertEqual(answered[0], [18])
        self.assertEqual(answered[1], [0, 65536] + [17] * 65536)
        self.assertEqual(answered[2], [0] + counted(data))


if __name__ == "__main__":
    unittest.main()
