"""Pictures as texts and as bytes ([50] and [51])."""

import random
import re
import unittest
import zlib

from planehall import errors
from planehall.images import check_number, picture_bytes, picture_text, read_bytes, read_picture, sum_number
from planehall.pictures import is_picture
from tests.helpers import STRAY, Told, kind_of, raised
from tests.test_pictures import NO_PICTURES, PICTURES

SIGNATURE = (137, 80, 78, 71, 13, 10, 26, 10)
GREATEST = tuple(tuple((7 * row * column + row) % 256 for column in range(48)) for row in range(48))
LONGEST = ((200,) * 48,) * 48


def some_picture(chance):
    wide = chance.randint(1, 5)
    return tuple(tuple(chance.choice((0, 1, 9, 10, 25, 99, 100, 199, 200, 249, 250, 255, chance.randrange(256))) for _ in range(wide)) for _ in range(chance.randint(1, 4)))


def text_of(picture):
    """The text, in the words of [50]."""
    lines = ["P2", f"{len(picture[0])} {len(picture)}", "255"] + [" ".join(map(str, row)) for row in picture]
    return "".join(line + "\n" for line in lines)


def bytes_of(picture):
    """The bytes, by what Python has for them."""
    def chunk(name, data):
        return len(data).to_bytes(4, "big") + name + data + zlib.crc32(name + data).to_bytes(4, "big")
    rows = b"".join(b"\0" + bytes(row) for row in picture)
    size = len(rows).to_bytes(2, "little") + (65535 - len(rows)).to_bytes(2, "little")
    head = len(picture[0]).to_bytes(4, "big") + len(picture).to_bytes(4, "big") + bytes((8, 0, 0, 0, 0))
    data = b"\x78\x01\x01" + size + rows + zlib.adler32(rows).to_bytes(4, "big")
    return tuple(bytes(SIGNATURE) + chunk(b"IHDR", head) + chunk(b"IDAT", data) + chunk(b"IEND", b""))


SIDE, GREY = "(?:[1-9]|[1-3][0-9]|4[0-8])", "(?:[0-9]|[1-9][0-9]|1[0-9][0-9]|2[0-4][0-9]|25[0-5])"


def begins_a_picture(text):
    """Whether some picture's text begins with a text, by what may stand in it."""
    head = re.match(rf"P2\n({SIDE}) ({SIDE})\n255\n", text)
    if not head:
        # Ends of the head, each as far as it may go.
        return any(re.fullmatch(part, text) for part in (
            "", "P", "P2", "P2\n", rf"P2\n{SIDE}", rf"P2\n{SIDE} ", rf"P2\n{SIDE} {SIDE}", rf"P2\n{SIDE} {SIDE}\n", rf"P2\n{SIDE} {SIDE}\n2", rf"P2\n{SIDE} {SIDE}\n25", rf"P2\n{SIDE} {SIDE}\n255"))
    wide, high, rest = int(head[1]), int(head[2]), text[head.end():]
    for _ in range(high):
        row = re.match(rf"{GREY}(?: {GREY}){{{wide - 1}}}\n", rest)
        if not row:
            return bool(re.fullmatch(rf"(?:{GREY} ){{0,{wide - 1}}}(?:{GREY})?", rest))
        rest = rest[row.end():]
    return rest == ""


class Texts(Told, unittest.TestCase):
    def assert_spot(self, spot, text):
        for error in (raised(read_picture, text), raised(read_picture, text=text)):
            self.assertIs(kind_of(error), errors.BadText, text)
            self.assert_plain(error.spot, spot)

    def check(self, text):
        """The first letter with which no picture's text goes on, or the length of one that is too short."""
        for k in range(len(text)):
            if not begins_a_picture(text[:k + 1]):
                self.assert_spot(k, text)
                return False
        error = raised(read_picture, text)
        if error is not None:
            self.assert_spot(len(text), text)
            return False
        self.assertEqual(picture_text(read_picture(text)), text)
        return True

    def test_pictures_that_are_none(self):
        for wrong in NO_PICTURES:
            for call in (picture_text, picture_bytes):
                self.assert_given(errors.InvalidPicture, wrong, call, wrong)
                self.assert_given(errors.InvalidPicture, wrong, call, picture=wrong)

    def test_texts(self):
        self.assert_plain(picture_text(((255, 7),)), "P2\n2 1\n255\n255 7\n")
        self.assert_plain(picture_text(((0,), (10,), (200,))), "P2\n1 3\n255\n0\n10\n200\n")
        chance = random.Random(171)
        for value in PICTURES + (GREATEST,) + tuple(some_picture(chance) for _ in range(100)):
            self.assert_plain(picture_text(value), text_of(value))
            self.assert_plain(picture_text(picture=value), text_of(value))
            self.assert_plain(read_picture(text_of(value)), value)
            self.assert_plain(read_picture(text=text_of(value)), value)

    def test_what_is_no_string(self):
        for wrong in [value for value in STRAY if not isinstance(value, str)] + [b"P2\n1 1\n255\n0\n", list("P2\n"), 0, ((0,),)]:
            for error in (raised(read_picture, wrong), raised(read_picture, text=wrong)):
                self.assertIs(kind_of(error), errors.BadText)
                self.assertIs(error.spot, None)

    def test_by_hand(self):
        for text, spot in (
            ("", 0), ("P", 1), ("P2", 2), ("p2\n", 0), ("P1\n", 1), ("P2 ", 2), ("P2\n", 3), ("P2\n0", 3), ("P2\n ", 3), ("P2\n01 1", 3), ("P2\n49 1", 4), ("P2\n48 1", 7), ("P2\n50", 4), ("P2\n480", 5), ("P2\n4", 4),
            ("P2\n2\n1", 4), ("P2\n2  1", 5), ("P2\n2 49", 6), ("P2\n2 0", 5), ("P2\n2 1 ", 6), ("P2\n2 1\n256", 9), ("P2\n2 1\n255 ", 10), ("P2\n2 1\n255\n256", 13), ("P2\n2 1\n255\n255 256", 17), ("P2\n2 1\n255\n260", 13),
            ("P2\n2 1\n255\n300", 13), ("P2\n2 1\n255\n25 ", 14), ("P2\n2 1\n255\n00", 12), ("P2\n2 1\n255\n01", 12), ("P2\n2 1\n255\n-1", 11), ("P2\n2 1\n255\n+1", 11), ("P2\n2 1\n255\n1\n", 12), ("P2\n2 1\n255\n1 2 ", 14),
            ("P2\n2 1\n255\n1 2", 14), ("P2\n2 1\n255\n1 2\n\n", 15), ("P2\n2 1\n255\n1 2\n ", 15), ("P2\n1 1\n255\n0\n0", 13), ("P2\n1 2\n255\n0\n", 13), ("P2\n1 1\r\n", 6), ("P2\n1 1\n255\n\u0661\n", 11), ("P2\n\u0661 1", 3), ("\ufeffP2", 0),
            ("P2\n1 1\n255\n2555", 14), ("P2\n1 1\n255\n1000", 14), ("P2\n2 1\n255\n\t", 11), ("P2\n# x\n", 3), (" P2", 0), ("P2\n2 1\n255\n1  2\n", 13), ("P2\n2 1\n255\n 1 2\n", 11), ("P2\n2 1\n255\n1 2 \n", 14), ("P2\n1\u0661 1", 4),
        ):
            self.assert_spot(spot, text)

    def test_cut_off_behind_each_letter(self):
        for value in (((0,),), ((255, 7), (30, 200)), ((10, 9, 100),), ((1,), (22,), (249,)), GREATEST):
            text = text_of(value)
            for k in range(0, len(text), 1 if len(text) < 100 else 37):
                self.assert_spot(k, text[:k])
            for more in ("\n", " ", "0", "P", "x"):
                self.assert_spot(len(text), text + more)

    def test_letters_exchanged_left_out_or_put_in(self):
        chance = random.Random(172)
        rights = 0
        for _ in range(40):
            text = text_of(some_picture(chance))
            for k in range(len(text) + 1):
                letter = chance.choice("0123456789 \nP2x-")
                for other in (text[:k] + letter + text[k + 1:], text[:k] + text[k + 1:], text[:k] + letter + text[k:], text[:k] + text[k + 1:k + 2] + text[k:k + 1] + text[k + 2:]):
                    rights += self.check(other)
        # Some of these are pictures, too.
        self.assertGreater(rights, 100)

    def test_the_longest(self):
        text = text_of(LONGEST)
        self.assertEqual(len(text), 13 + 4 * 48 * 48)
        self.assert_plain(read_picture(text), LONGEST)
        for k in (12, 13, 100, 1000, 9000, len(text) - 1):
            self.assert_spot(k, text[:k] + "x" + text[k + 1:])


class Bytes(Told, unittest.TestCase):
    def assert_at(self, index, data, call=read_bytes):
        for error in (raised(call, data), raised(call, data=data)):
            self.assertIs(kind_of(error), errors.InvalidBytes, (index, data[:80] if data else data))
            self.assert_plain(error.index, index)

    def test_bytes(self):
        chance = random.Random(173)
        for value in PICTURES + (GREATEST, LONGEST) + tuple(some_picture(chance) for _ in range(60)):
            self.assert_plain(picture_bytes(value), bytes_of(value))
            self.assert_plain(picture_bytes(picture=value), bytes_of(value))
            self.assert_plain(read_bytes(bytes_of(value)), value)
            self.assert_plain(read_bytes(data=bytes_of(value)), value)
        self.assertEqual(len(picture_bytes(((0,),))), 70)
        self.assertEqual(picture_bytes(((0,),))[:8], SIGNATURE)
        self.assertEqual(len(picture_bytes(GREATEST)), 57 + 11 + 48 * 49)

    def test_a_reader_of_such_bytes_sees_the_greys(self):
        data = bytes(picture_bytes(GREATEST))
        at = data.index(b"IDAT")
        rows = zlib.decompress(data[at + 4:at + 4 + int.from_bytes(data[at - 4:at], "big")])
        self.assertEqual(rows, b"".join(b"\0" + bytes(row) for row in GREATEST))

    def test_what_is_no_tuple(self):
        for wrong in [value for value in STRAY if not isinstance(value, tuple)] + [list(picture_bytes(((0,),))), bytes(picture_bytes(((0,),))), 0, 137, "137"]:
            for call in (read_bytes, check_number, sum_number):
                for error in (raised(call, wrong), raised(call, data=wrong)):
                    self.assertIs(kind_of(error), errors.InvalidBytes)
                    self.assertIs(error.index, None)

    def test_too_few(self):
        for value in (((0,),), ((255, 7), (30, 200)), GREATEST):
            data = bytes_of(value)
            for k in range(0, len(data), 1 if len(data) < 200 else 61):
                self.assert_at(k, data[:k])
            for k in (0, 18, 19, 20, 23, 24, 47, 48, 49, len(data) - 1):
                self.assert_at(k, data[:k])

    def test_too_many(self):
        for value in (((0,),), ((255, 7), (30, 200)), GREATEST):
            data = bytes_of(value)
            for more in ((0,), (137,), (None, 0), (0, 0, 0), data):
                self.assert_at(len(data), data + more)

    def test_any_one_byte_exchanged(self):
        """No bytes of a picture differ from others of one in one byte alone; the first one that is wrong is told."""
        chance = random.Random(174)
        for value in (((0,),), ((255, 7), (30, 200)), ((1, 2, 3),)):
            data = bytes_of(value)
            wide, high = len(value[0]), len(value)
            rows_end = 48 + high * (wide + 1)
            for k in range(len(data)):
                for part in sorted({chance.randrange(256) for _ in range(8)} | {0, 1, 48, 49, 255, data[k] ^ 1, data[k] ^ 128}):
                    if part != data[k]:
                        other = data[:k] + (part,) + data[k + 1:]
                        index = raised(read_bytes, other).index
                        is_grey = 48 <= k < rows_end and (k - 48) % (wide + 1) > 0
                        if k in (19, 23) and 1 <= part <= 48:
                            # Another size: the check number of the first chunk, at the latest, is another one.
                            self.assertTrue(29 <= index <= 32, (k, part, index))
                        elif is_grey:
                            self.assertTrue(rows_end <= index < rows_end + 4)
                        else:
                            self.assertEqual(index, k)

    def test_greatest_with_one_byte_exchanged(self):
        chance = random.Random(175)
        data = bytes_of(GREATEST)
        for _ in range(60):
            k = chance.randrange(len(data))
            other = data[:k] + ((data[k] + chance.randint(1, 255)) % 256,) + data[k + 1:]
            self.assertIs(kind_of(raised(read_bytes, other)), errors.InvalidBytes)
            self.assertGreaterEqual(raised(read_bytes, other).index, k)

    def test_left_out_and_put_in(self):
        chance = random.Random(176)
        for _ in range(30):
            value = some_picture(chance)
            data = bytes_of(value)
            for k in range(len(data)):
                for other in (data[:k] + data[k + 1:], data[:k] + (chance.randrange(256),) + data[k:]):
                    if other != data:
                        self.check(other)

    def check(self, data):
        """What stands ahead of the index told begins the bytes of some picture, what goes up to it of none."""
        index = raised(read_bytes, data).index
        self.assertTrue(self.begins(data[:index]), (data, index))
        self.assertTrue(index == len(data) or not self.begins(data[:index + 1]), (data, index))

    def begins(self, data):
        """Whether a picture's bytes begin so: what is not told by it may be anything."""
        wide = data[19] if len(data) > 19 else 1
        high = data[23] if len(data) > 23 else 1
        if not 1 <= wide <= 48 or not 1 <= high <= 48:
            return False
        greys = [[data[at] if at < len(data) else 0 for at in range(49 + row * (wide + 1), 49 + row * (wide + 1) + wide)] for row in range(high)]
        return bytes_of(tuple(map(tuple, greys)))[:len(data)] == data

    def test_parts_that_are_no_bytes(self):
        data = bytes_of(((255, 7), (1, 0)))
        for k in range(len(data)):
            for wrong in (256, -1, True, False, None, str(data[k]), (data[k],), [data[k]], 10 ** 400, b"\0", object()):
                self.assert_at(k, data[:k] + (wrong,) + data[k + 1:])
        # Of several the first one.
        self.assert_at(0, (None,) * 80)
        self.assert_at(3, (137, 80, 78, "x", None))
        self.assert_at(50, data[:50] + (None, None) + data[52:])
        self.assert_at(2, (137, 80, 1))
        self.assert_at(0, ())

    def test_sizes(self):
        data = bytes_of(((0,),))
        for at in (19, 23):
            for part in (0, 49, 50, 255):
                self.assert_at(at, data[:at] + (part,))
            for part in range(1, 49):
                self.assert_at(at + 1, data[:at] + (part,))
        for at in (16, 17, 18, 20, 21, 22):
            self.assert_at(at, data[:at] + (1,))
        for wide, high in ((48, 48), (48, 1), (1, 48), (47, 3)):
            value = ((5,) * wide,) * high
            self.assert_plain(read_bytes(picture_bytes(value)), value)


class Numbers(Told, unittest.TestCase):
    def test_check_and_sum_numbers(self):
        self.assert_plain([check_number(()), check_number((73, 69, 78, 68)), sum_number(()), sum_number((97, 98, 99))], [0, 2923585666, 1, 38600999])
        self.assert_plain([check_number(tuple(b"123456789")), sum_number(tuple(b"Wikipedia"))], [0xCBF43926, 0x11E60398])
        chance = random.Random(177)
        for many in (1, 2, 3, 10, 100, 1000, 1999, 2000):
            for _ in range(4):
                data = tuple(chance.randrange(256) for _ in range(many))
                self.assert_plain(check_number(data), zlib.crc32(bytes(data)))
                self.assert_plain(sum_number(data), zlib.adler32(bytes(data)))
                self.assert_plain(check_number(data=data), check_number(data))
                self.assert_plain(sum_number(data=data), sum_number(data))
        for data in ((255,) * 2000, (0,) * 2000, (255,), (0,), (0, 0)):
            self.assert_plain(check_number(data), zlib.crc32(bytes(data)))
            self.assert_plain(sum_number(data), zlib.adler32(bytes(data)))

    def test_wrong_parts(self):
        for call in (check_number, sum_number):
            for wrong in (256, -1, True, False, None, "1", (1,), [1], 10 ** 400, b"\0"):
                for k in range(3):
                    data = (0, 255, 7)[:k] + (wrong,) + (None, 3)
                    for error in (raised(call, data), raised(call, data=data)):
                        self.assertIs(kind_of(error), errors.InvalidBytes)
                        self.assert_plain(error.index, k)
            self.assertIsNone(raised(call, (0, 255)))

    def test_one_byte_exchanged_changes_both(self):
        chance = random.Random(178)
        for _ in range(50):
            data = tuple(chance.randrange(256) for _ in range(30))
            for k in range(30):
                other = data[:k] + ((data[k] + chance.randint(1, 255)) % 256,) + data[k + 1:]
                self.assertNotEqual(check_number(data), check_number(other))
                self.assertNotEqual(sum_number(data), sum_number(other))


class RoundTrips(Told, unittest.TestCase):
    def test_all(self):
        chance = random.Random(179)
        for value in PICTURES + (GREATEST,) + tuple(some_picture(chance) for _ in range(60)):
            self.assertTrue(is_picture(value))
            self.assert_plain(read_bytes(picture_bytes(value)), value)
            self.assert_plain(read_picture(picture_text(value)), value)


if __name__ == "__main__":
    unittest.main()
