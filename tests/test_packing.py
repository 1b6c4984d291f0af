"""Point 19: bytes of numbers, and of towns."""

import random
import unittest

from simulated import far_town, random_town
from wornbridges.errors import InvalidCount, InvalidData
from wornbridges.packing import decode_town, encode_town, pack_bytes, unpack_bytes
from wornbridges.towns import Town

LIMIT = 10 ** 18
TOWN = Town(3, ((0, 1, 2, 10), (1, 2, 3, 300), (2, 0, 99, LIMIT)))


def checked(numbers):
    """Return the bytes of numbers with a right checksum behind them."""
    checksum = 5
    for number in numbers:
        checksum = (41 * checksum + number) % 65521
    return bytes([*numbers, checksum // 256, checksum % 256])


def groups_of(life):
    """Return the list of the bytes of a life, made of its binary digits."""
    bits = f"{life:b}"
    bits = bits.zfill((len(bits) + 6) // 7 * 7)
    groups = [int(bits[at:at + 7], 2) for at in range(0, len(bits), 7)][::-1]
    return [group + 128 for group in groups[:-1]] + groups[-1:]


def first_fault(data):
    """Return the offset of the first fault of data, or None, found another way: by lists of what may follow."""
    allowed = [{84}, set(range(1, 13)), set(range(25))]
    at = 0
    while at < 3:
        if at == len(data) or data[at] not in allowed[at]:
            return at
        at += 1
    for _ in range(data[2]):
        places = set(range(data[1]))
        for what in ("one", "other", "length"):
            if at == len(data):
                return at
            good = {"one": places, "other": places - {data[at - 1]}, "length": set(range(1, 100))}[what]
            if data[at] not in good:
                return at
            at += 1
        end = at
        while end < len(data) and data[end] > 127:
            end += 1
        if end == len(data):
            return end
        if end > at and data[end] == 0:
            return end
        if sum([(data[place] & 127) * 128 ** (place - at) for place in range(at, end + 1)]) > LIMIT:
            return at
        at = end + 1
    whole = checked(list(data[:at]))
    while at < len(whole):
        if at == len(data) or data[at] != whole[at]:
            return at
        at += 1
    return None if at == len(data) else at


class BytesTest(unittest.TestCase):
    def test_pack(self):
        for numbers in ([], [0], [255], [0, 255, 84, 1], list(range(256))):
            self.assertEqual(pack_bytes(numbers), bytes(numbers))
            self.assertIs(pack_bytes(numbers).__class__, bytes)
            self.assertEqual(unpack_bytes(bytes(numbers)), numbers)
            self.assertEqual(unpack_bytes(pack_bytes(numbers)), numbers)

    def test_wrong_numbers(self):
        for wrong in (-1, 256, -256, LIMIT, -LIMIT):
            for numbers in ([wrong], [0, wrong], [wrong, 255], [1, 2, wrong, wrong]):
                with self.assertRaises(InvalidCount):
                    pack_bytes(numbers)

    def test_unpack(self):
        self.assertEqual(unpack_bytes(b""), [])
        self.assertEqual(unpack_bytes(b"\x00T\xff"), [0, 84, 255])
        found = unpack_bytes(b"\x01")
        found.append(2)
        self.assertEqual(unpack_bytes(b"\x01"), [1])

    def test_the_list_is_not_modified(self):
        numbers = [1, 2, 3]
        pack_bytes(numbers)
        self.assertEqual(numbers, [1, 2, 3])
        with self.assertRaises(InvalidCount):
            pack_bytes([*numbers, 256])


class TownTest(unittest.TestCase):
    def check(self, town):
        data = encode_town(town)
        with self.subTest(town=town.text[:80]):
            self.assertIs(data.__class__, bytes)
            found = decode_town(data)
            self.assertIs(found.__class__, Town)
            self.assertEqual((found.place_count, found.bridges), (town.place_count, town.bridges))
            self.assertEqual(encode_town(found), data)

    def test_numbers(self):
        self.assertEqual(unpack_bytes(encode_town(Town(1, ()))), [84, 1, 0, *checked([84, 1, 0])[3:]])
        numbers = [84, 3, 3, 0, 1, 2, 10, 1, 2, 3, 172, 2, 2, 0, 99, *groups_of(LIMIT)]
        self.assertEqual(encode_town(TOWN), checked(numbers))
        # 5, then 41 * 5 + 84 = 289, then 41 * 289 + 2 = 11851, then 41 * 11851 + 0 = 485891, less 7 * 65521.
        self.assertEqual(unpack_bytes(encode_town(Town(2, ()))), [84, 2, 0, *divmod(485891 - 7 * 65521, 256)])

    def test_there_and_back(self):
        for town in (TOWN, Town(1, ()), Town(12, ()), Town(2, ((1, 0, 1, 0),)), Town(12, ((11, 0, 99, LIMIT),) * 24)):
            self.check(town)

    def test_lives_at_each_border(self):
        for bits in range(0, 60):
            for life in (2 ** bits - 1, 2 ** bits, 2 ** bits + 1):
                if life <= LIMIT:
                    town = Town(2, ((0, 1, 5, life), (1, 0, 6, 1)))
                    self.assertEqual(encode_town(town), checked([84, 2, 2, 0, 1, 5, *groups_of(life), 1, 0, 6, 1]))
                    self.check(town)
        for life in (0, 1, 127, 128, 16383, 16384, LIMIT - 1, LIMIT):
            self.check(Town(2, ((0, 1, 5, life),)))

    def test_random_towns(self):
        chance = random.Random(81)
        for _ in range(100):
            self.check(random_town(chance, places=12, bridges=24, life=10 ** chance.randint(1, 18)))
            self.check(far_town(chance))


class FaultTest(unittest.TestCase):
    def check(self, offset, data):
        with self.subTest(offset=offset, data=list(data)):
            with self.assertRaises(InvalidData) as caught:
                decode_town(data)
            self.assertEqual(caught.exception.offset, offset)

    def check_numbers(self, offset, numbers):
        """Check numbers without a checksum, with a right one, with a wrong one and with more behind it."""
        self.check(offset, bytes(numbers))
        whole = checked(numbers)
        self.check(offset, whole)
        self.check(offset, whole[:-1] + bytes([whole[-1] ^ 1]))
        self.check(offset, whole + b"\x00")

    def test_the_first_byte(self):
        for number in (0, 83, 85, 255):
            self.check_numbers(0, [number, 2, 1, 0, 1, 5, 9])
        self.check(0, b"")

    def test_numbers_of_places(self):
        for number in (0, 13, 255):
            self.check_numbers(1, [84, number, 0])

    def test_numbers_of_bridges(self):
        for number in (25, 84, 255):
            self.check_numbers(2, [84, 2, number])
            self.check_numbers(2, [84, 2, number] + [0, 1, 5, 9] * number)
        self.assertEqual(len(decode_town(checked([84, 2, 24] + [0, 1, 5, 9] * 24)).bridges), 24)

    def test_places(self):
        for count in (1, 2, 11, 12):
            for number in (count, count + 1, 255):
                self.check_numbers(3, [84, count, 1, number, 0, 5, 9])
                self.check_numbers(4, [84, count, 1, 0, number, 5, 9])
        self.check_numbers(8, [84, 2, 2, 0, 1, 5, 9, 1, 2, 5, 9])

    def test_the_same_place_twice(self):
        for place in range(3):
            self.check_numbers(4, [84, 3, 1, place, place, 5, 9])
        self.check_numbers(4, [84, 1, 1, 0, 0, 5, 9])
        self.check_numbers(9, [84, 2, 2, 0, 1, 5, 128, 1, 1, 1, 5, 9])

    def test_lengths(self):
        for length in (0, 100, 255):
            self.check_numbers(5, [84, 2, 1, 0, 1, length, 9])
        for length in (1, 99):
            self.assertEqual(decode_town(checked([84, 2, 1, 0, 1, length, 9])).bridges, ((0, 1, length, 9),))

    def test_a_last_group_of_0(self):
        for more in range(1, 12):
            self.check_numbers(6 + more, [84, 2, 1, 0, 1, 5, *[128] * more, 0])
        self.check_numbers(7, [84, 2, 1, 0, 1, 5, 129, 0])
        self.check_numbers(11, [84, 2, 2, 0, 1, 5, 0, 0, 1, 5, 255, 0])
        self.assertEqual(decode_town(checked([84, 2, 1, 0, 1, 5, 0])).lives, (0,))
        self.assertEqual(decode_town(checked([84, 2, 1, 0, 1, 5, 128, 1])).lives, (128,))
        self.assertEqual(decode_town(checked([84, 2, 1, 0, 1, 5, 128, 128, 1])).lives, (128 * 128,))

    def test_a_life_that_is_too_great(self):
        powers = [2 ** bits + more for bits in (60, 63, 64, 70) for more in (-1, 0, 1)]
        for life in (LIMIT + 1, *powers, 10 ** 19, 10 ** 30, 10 ** 900):
            self.check_numbers(6, [84, 2, 1, 0, 1, 5, *groups_of(life)])
            self.check_numbers(11, [84, 2, 2, 0, 1, 5, 200, 1, 1, 0, 7, *groups_of(life)])
        self.assertEqual(decode_town(checked([84, 2, 1, 0, 1, 5, *groups_of(LIMIT)])).lives, (LIMIT,))

    def test_a_great_life_is_read_whole(self):
        # Its end is missing, or its last group is 0: that is found before the life is known.
        for more in (9, 10, 20, 2000):
            self.check(6 + more, bytes([84, 2, 1, 0, 1, 5, *[255] * more]))
            self.check_numbers(6 + more, [84, 2, 1, 0, 1, 5, *[255] * more, 0])
            self.check_numbers(6, [84, 2, 1, 0, 1, 5, *[255] * more, 1])

    def test_the_checksum(self):
        for numbers in ([84, 1, 0], [84, 2, 1, 0, 1, 5, 172, 2]):
            whole = checked(numbers)
            for number in range(256):
                if number != whole[-2]:
                    self.check(len(numbers), bytes([*numbers, number, whole[-1]]))
                    self.check(len(numbers), bytes([*numbers, number]))
                    self.check(len(numbers), bytes([*numbers, number, whole[-1] ^ 1, 0]))
                if number != whole[-1]:
                    self.check(len(numbers) + 1, bytes([*numbers, whole[-2], number]))
                    self.check(len(numbers) + 1, bytes([*numbers, whole[-2], number, 7]))

    def test_data_that_ends_at_each_place(self):
        for town in (TOWN, Town(1, ()), Town(12, ((3, 4, 5, LIMIT),) * 24)):
            data = encode_town(town)
            for size in range(len(data)):
                self.check(size, data[:size])

    def test_a_byte_more(self):
        for town in (TOWN, Town(1, ())):
            data = encode_town(town)
            for more in (b"\x00", b"T", b"\xff\xff", data):
                self.check(len(data), data + more)

    def test_the_first_one_of_several_faults(self):
        self.check_numbers(0, [85, 13, 25, 0, 0, 100, 128, 0])
        self.check_numbers(1, [84, 13, 25, 0, 0, 100, 128, 0])
        self.check_numbers(2, [84, 12, 25, 0, 0, 100, 128, 0])
        self.check_numbers(3, [84, 12, 24, 12, 12, 100, 128, 0])
        self.check_numbers(4, [84, 12, 24, 0, 0, 100, 128, 0])
        self.check_numbers(5, [84, 12, 24, 0, 1, 100, 128, 0])
        self.check_numbers(7, [84, 12, 24, 0, 1, 99, 128, 0, 12])
        self.check_numbers(7, [84, 12, 24, 0, 1, 99, 127, 12])
        self.check_numbers(6, [84, 12, 24, 0, 1, 99, *groups_of(LIMIT + 1), 12])

    def test_random_faults(self):
        chance = random.Random(82)
        offsets = set()
        for _ in range(3000):
            numbers = list(encode_town(random_town(chance, places=4, bridges=3, life=10 ** chance.randint(1, 18))))
            for _ in range(chance.randint(1, 3)):
                at = chance.randrange(len(numbers))
                kind = chance.randrange(4)
                if kind == 0:
                    numbers[at] = chance.choice([0, 1, 84, 99, 100, 127, 128, 255, chance.randrange(256)])
                elif kind == 1:
                    del numbers[at]
                elif kind == 2:
                    numbers.insert(at, chance.choice([0, 1, 2, 128, 255]))
                numbers = numbers or [0]
            data = checked(numbers[:-2]) if chance.random() < 0.5 else bytes(numbers)
            offset = first_fault(data)
            offsets.add(offset)
            if offset is None:
                self.assertEqual(encode_town(decode_town(data)), data)
            else:
                self.check(offset, data)
        self.assertGreater(len(offsets), 15)
        self.assertIn(None, offsets)


if __name__ == "__main__":
    unittest.main()
