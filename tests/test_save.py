"""Point 4, save: the bytes of a container."""

import random
import unittest
import zlib

from partfiles.checksum import FOUR_STEPS, sum_of
from tests.helpers import (
    BEGINS, SAVE, Case, as_bytes, drop, get, last, number_at, parts_of, plain_pack, plain_sum,
    plain_unpack, put, run, saved, stands_for,
)

KNOWN_SUMS = (
    ("", 0x00000000),
    ("a", 0xE8B7BE43),
    ("abc", 0x352441C2),
    ("123456789", 0xCBF43926),
    ("The quick brown fox jumps over the lazy dog", 0x414FA339),
    ([0], 0xD202EF8D),
    ([0] * 32, 0x190A55AD),
    ([255] * 32, 0xFF6CAB0B),
    (range(32), 0x91267E8A),
)


class Sum(Case):

    def test_known_values(self):
        for data, known in KNOWN_SUMS:
            with self.subTest(data=data):
                self.assertEqual(sum_of(as_bytes(data)), known)
                self.assertEqual(parts_of(saved(put("p", data)))[0][4], known)

    def test_the_table_is_four_steps(self):
        for value, entry in enumerate(FOUR_STEPS):
            for step in range(4):
                value = value // 2 ^ (0xEDB88320 if value % 2 else 0)
            self.assertEqual(entry, value)

    def test_as_the_document_tells_it(self):
        chance = random.Random(4)
        for length in range(60):
            data = [chance.randrange(256) for which in range(length)]
            self.assertEqual(sum_of(data), plain_sum(data))
            self.assertEqual(sum_of(data), zlib.crc32(bytes(data)))

    def test_every_byte(self):
        for byte in range(256):
            self.assertEqual(sum_of([byte]), zlib.crc32(bytes([byte])))


class Container(Case):

    def test_no_parts(self):
        begin = [87, 66, 75, 49, 0, 0]
        end = list(zlib.crc32(bytes(begin)).to_bytes(4, "little"))
        self.assertEqual(run(SAVE), [[0, 10] + begin + end])

    def test_a_part_that_is_not_packed(self):
        begin = [87, 66, 75, 49, 1, 0, 2, 97, 98, 0, 3, 0, 0, 0, 3, 0, 0, 0, 0xC2, 0x41, 0x24, 0x35, 97, 98, 99]
        end = list(zlib.crc32(bytes(begin)).to_bytes(4, "little"))
        self.assertEqual(last(put("ab", "abc"), SAVE), [0, 29] + begin + end)

    def test_a_part_that_is_packed(self):
        own = list(zlib.crc32(b"x" * 300).to_bytes(4, "little"))
        begin = [87, 66, 75, 49, 1, 0, 1, 97, 1, 44, 1, 0, 0, 11, 0, 0, 0] + own
        begin += [0, 120, 255, 0, 0, 255, 0, 0, 164, 0, 0]
        end = list(zlib.crc32(bytes(begin)).to_bytes(4, "little"))
        self.assertEqual(saved(put("a", "x" * 300)), begin + end)

    def test_an_empty_part(self):
        self.assertEqual(parts_of(saved(put("e", ""))), [("e", 0, 0, 0, 0, [])])

    def test_the_parts_are_in_order_of_their_names(self):
        names = ["b", "ab", "a", "~", "!", "B", "a!"]
        found = parts_of(saved(*[put(name, name) for name in names]))
        self.assertEqual([part[0] for part in found], ["!", "B", "a", "a!", "ab", "b", "~"])
        for part in found:
            self.assertEqual(part[5], as_bytes(part[0]))

    def test_sixty_four_parts(self):
        container = saved(*[put(f"n{which:02}", [which] * which) for which in range(64)])
        self.assertEqual(container[4:6], [64, 0])
        for which, part in enumerate(parts_of(container)):
            data = [which] * which
            packed = plain_pack(data)
            stands = packed if len(packed) < which else data
            is_packed = 1 if len(packed) < which else 0
            self.assertEqual(
                part, (f"n{which:02}", is_packed, which, len(stands), zlib.crc32(bytes(data)), stands))

    def test_longest_name(self):
        container = saved(put("n" * 64, "x"))
        self.assertEqual(container[6], 64)
        self.assertEqual(parts_of(container)[0][0], "n" * 64)

    def test_lengths_have_the_lowest_byte_first(self):
        data = list(range(256)) * 2 + [5] * 300
        container = saved(put("a", data))
        self.assertEqual(container[9:13], [812 % 256, 812 // 256, 0, 0])
        packed = plain_pack(data)
        self.assertGreater(len(packed), 255)
        self.assertEqual(container[13:17], [len(packed) % 256, len(packed) // 256, 0, 0])
        longest = saved(put("a", [5] * 65536))
        self.assertEqual(longest[9:13], [0, 0, 1, 0])

    def test_the_last_four_bytes_are_the_sum_of_all_before(self):
        container = saved(put("a", "x"), put("b", [9] * 500), put("c", ""))
        self.assertEqual(number_at(container, len(container) - 4, 4), zlib.crc32(bytes(container[:-4])))

    def test_save_changes_nothing(self):
        answered = run(put("a", "x" * 50), SAVE, SAVE, get("a"), [4, 0, 0])
        self.assertEqual(answered[1], answered[2])
        self.assertEqual(answered[3:], [[0, 50] + [120] * 50, [1, 1, 97]])

    def test_save_tells_the_parts_as_they_are_now(self):
        answered = run(
            put("a", "x" * 50), SAVE, put("a", "y" * 60), SAVE, put("b", "z"), SAVE, drop("a"), SAVE, BEGINS, SAVE)
        self.assertEqual(answered[3][2:], saved(put("a", "y" * 60)))
        self.assertEqual(answered[5][2:], saved(put("a", "y" * 60), put("b", "z")))
        self.assertEqual(answered[7][2:], saved(put("b", "z")))
        self.assertEqual(answered[9][2:], saved())

    def test_refusals_leave_what_is_saved(self):
        calls = [put("a", "x" * 50), put("b", "y")]
        refused = [put("", "z"), put([32], "z"), put("a", [1] * 65537), drop("c"), get("c")]
        self.assertEqual(saved(*calls, SAVE, *refused), saved(*calls))


class Shorter(Case):

    def test_packed_just_where_that_is_shorter(self):
        self.assertEqual(stands_for([5] * 4), (0, [5] * 4))
        self.assertEqual(stands_for([5] * 6), (1, [0, 5, 130, 0, 0]))

    def test_no_shorter(self):
        for data in ([1], [1, 2, 3], list(range(256)), [1, 2] * 2, [7] * 3):
            with self.subTest(data=data):
                self.assertGreater(len(plain_pack(data)), len(data))
                self.assertEqual(stands_for(data), (0, data))

    def test_just_as_long(self):
        for data in ([], [5] * 5, [1, 2, 3, 4, 1, 2, 3, 4], [1, 2, 3, 4, 5, 1, 2, 3, 4, 5, 9]):
            with self.subTest(data=data):
                self.assertEqual(len(plain_pack(data)), len(data))
                self.assertEqual(stands_for(data), (0, data))

    def test_shorter_by_one(self):
        data = [1, 2, 3, 4, 5, 1, 2, 3, 4, 5]
        self.assertEqual(stands_for(data), (1, [4, 1, 2, 3, 4, 5, 130, 4, 0]))

    def test_what_stands_packed_is_the_part(self):
        chance = random.Random(9)
        for signs in (1, 2, 3, 10):
            data = [chance.randrange(signs) for which in range(6000)]
            is_packed, stands = stands_for(data)
            self.assertEqual(is_packed, 1)
            self.assertEqual(plain_unpack(stands), data)


if __name__ == "__main__":
    unittest.main()
