import inspect
import unittest

from dotpress import words
from dotpress.words import bits_of, number_of, room_of, span_of_width

SIXTY_FIGURES = 10 ** 60 - 1
TWO_HUNDRED_FIGURES = 10 ** 200 - 1


class InterfaceTest(unittest.TestCase):
    def test_arguments(self):
        wanted = {
            "bits_of": ["number", "many"],
            "number_of": ["bits", "below"],
            "span_of_width": ["width"],
            "room_of": ["span"],
        }
        for name, arguments in wanted.items():
            with self.subTest(name=name):
                self.assertEqual(list(inspect.signature(getattr(words, name)).parameters), arguments)


class BitsOfTest(unittest.TestCase):
    def check_bits(self, number, many, wanted):
        bits = bits_of(number, many)
        self.assertIs(type(bits), list)
        self.assertEqual(bits, wanted)
        for bit in bits:
            self.assertIs(type(bit), int)

    def test_known_bits(self):
        cases = [
            (0, 0, []),
            (0, 1, [0]),
            (0, 64, [0] * 64),
            (1, 0, []),
            (1, 1, [1]),
            (1, 64, [1] + [0] * 63),
            (6, 1, [0]),
            (6, 2, [0, 1]),
            (6, 3, [0, 1, 1]),
            (6, 5, [0, 1, 1, 0, 0]),
            (-1, 0, []),
            (-1, 1, [1]),
            (-1, 64, [1] * 64),
            (-2, 1, [0]),
            (-2, 4, [0, 1, 1, 1]),
            (-6, 5, [0, 1, 0, 1, 1]),
            (2 ** 63, 64, [0] * 63 + [1]),
            (2 ** 64, 64, [0] * 64),
            (2 ** 64 - 1, 64, [1] * 64),
            (-(2 ** 63), 64, [0] * 63 + [1]),
            (-(2 ** 64), 64, [0] * 64),
        ]
        for number, many, wanted in cases:
            with self.subTest(number=number, many=many):
                self.check_bits(number, many, wanted)

    def test_numbers_of_sixty_figures(self):
        for number in (SIXTY_FIGURES, -SIXTY_FIGURES, 10 ** 59 + 7, -(10 ** 59) - 7):
            for many in (0, 1, 2, 63, 64):
                with self.subTest(number=number, many=many):
                    self.check_bits(number, many, [number // 2 ** k % 2 for k in range(many)])

    def test_every_small_number(self):
        for number in range(-130, 131):
            for many in (0, 1, 7, 8, 9):
                with self.subTest(number=number, many=many):
                    self.check_bits(number, many, [number // 2 ** k % 2 for k in range(many)])

    def test_somewhat_beyond_the_bounds(self):
        self.check_bits(-1, 80, [1] * 80)
        self.check_bits(2 ** 70, 72, [0] * 70 + [1, 0])

    def test_told_lists_are_the_askers_own(self):
        bits = bits_of(5, 3)
        bits.append(9)
        bits[0] = 7
        self.assertEqual(bits_of(5, 3), [1, 0, 1])


class NumberOfTest(unittest.TestCase):
    def test_known_numbers(self):
        cases = [
            ([], 0, 0),
            ([0], 0, 0),
            ([1], 1, -1),
            ([1, 0], 1, 1),
            ([0, 1], 2, -2),
            ([1, 1], 3, -1),
            ([0, 1, 1], 6, -2),
            ([0, 1, 1, 0], 6, 6),
            ([1, 0, 0, 1], 9, -7),
            ([0] * 63 + [1], 2 ** 63, -(2 ** 63)),
            ([1] * 64, 2 ** 64 - 1, -1),
            ([1] * 63 + [0], 2 ** 63 - 1, 2 ** 63 - 1),
        ]
        for bits, plain, below in cases:
            with self.subTest(bits=bits):
                self.assertEqual(number_of(bits, False), plain)
                self.assertEqual(number_of(bits, True), below)
                self.assertIs(type(number_of(bits, False)), int)
                self.assertIs(type(number_of(bits, True)), int)

    def test_back_from_bits(self):
        for many in range(1, 9):
            half = 2 ** (many - 1)
            for number in range(-half, half):
                with self.subTest(number=number, many=many):
                    self.assertEqual(number_of(bits_of(number, many), True), number)
            for number in range(2 * half):
                with self.subTest(number=number, many=many):
                    self.assertEqual(number_of(bits_of(number, many), False), number)

    def test_back_from_sixty_four_bits(self):
        for number in (-(2 ** 63), -(2 ** 63) + 1, -1, 0, 1, 2 ** 63 - 1):
            with self.subTest(number=number):
                self.assertEqual(number_of(bits_of(number, 64), True), number)
        for number in (0, 1, 2 ** 63, 2 ** 64 - 1):
            with self.subTest(number=number):
                self.assertEqual(number_of(bits_of(number, 64), False), number)

    def test_back_from_numbers(self):
        for many in range(7):
            for number in range(2 ** many):
                bits = [number // 2 ** k % 2 for k in range(many)]
                with self.subTest(bits=bits):
                    self.assertEqual(bits_of(number_of(bits, True), many), bits)
                    self.assertEqual(bits_of(number_of(bits, False), many), bits)

    def test_numbers_too_great_for_their_bits_wrap(self):
        for number in (SIXTY_FIGURES, -SIXTY_FIGURES):
            rest = number % 2 ** 64
            with self.subTest(number=number):
                self.assertEqual(number_of(bits_of(number, 64), False), rest)
                self.assertIn(number_of(bits_of(number, 64), True), (rest, rest - 2 ** 64))

    def test_somewhat_beyond_the_bounds(self):
        self.assertEqual(number_of([1] * 80, False), 2 ** 80 - 1)
        self.assertEqual(number_of([0] * 79 + [1], True), -(2 ** 79))

    def test_bits_handed_in_stay(self):
        for below in (True, False):
            for bits in ([], [1], [1, 0, 1, 1]):
                before = list(bits)
                number_of(bits, below)
                with self.subTest(bits=before, below=below):
                    self.assertEqual(bits, before)


class SpanOfWidthTest(unittest.TestCase):
    def test_known_spans(self):
        cases = {
            1: (0, 1),
            2: (0, 3),
            8: (0, 255),
            23: (0, 8388607),
            24: (0, 16777215),
            -1: (-1, 0),
            -2: (-2, 1),
            -8: (-128, 127),
            -23: (-4194304, 4194303),
            -24: (-8388608, 8388607),
        }
        for width, span in cases.items():
            with self.subTest(width=width):
                self.assertEqual(span_of_width(width), span)

    def test_every_width(self):
        for width in range(1, 25):
            with self.subTest(width=width):
                self.assertEqual(span_of_width(width), (0, 2 ** width - 1))
                self.assertEqual(span_of_width(-width), (-(2 ** (width - 1)), 2 ** (width - 1) - 1))

    def test_somewhat_beyond_the_bounds(self):
        self.assertEqual(span_of_width(30), (0, 2 ** 30 - 1))
        self.assertEqual(span_of_width(-30), (-(2 ** 29), 2 ** 29 - 1))

    def test_kinds(self):
        for width in (1, 24, -1, -24):
            span = span_of_width(width)
            with self.subTest(width=width):
                self.assertIs(type(span), tuple)
                self.assertEqual([type(end) for end in span], [int, int])


def fits(span, many):
    low, high = span
    if low >= 0:
        return high < 2 ** many
    return low >= -(2 ** (many - 1)) and high < 2 ** (many - 1)


class RoomOfTest(unittest.TestCase):
    def check_room(self, span):
        room = room_of(span)
        self.assertIs(type(room), tuple)
        self.assertEqual(len(room), 2)
        many, below = room
        self.assertIs(type(many), int)
        self.assertIs(below, span[0] < 0)
        self.assertGreaterEqual(many, 1)
        self.assertTrue(fits(span, many))
        if many > 1:
            self.assertFalse(fits(span, many - 1))

    def test_known_rooms(self):
        cases = {
            (0, 0): (1, False),
            (0, 1): (1, False),
            (1, 1): (1, False),
            (0, 2): (2, False),
            (0, 3): (2, False),
            (0, 4): (3, False),
            (2, 4): (3, False),
            (0, 255): (8, False),
            (0, 256): (9, False),
            (256, 257): (9, False),
            (-1, -1): (1, True),
            (-1, 0): (1, True),
            (-1, 1): (2, True),
            (-2, -2): (2, True),
            (-2, 1): (2, True),
            (-2, 2): (3, True),
            (-3, -3): (3, True),
            (-3, 0): (3, True),
            (-4, 3): (3, True),
            (-5, 3): (4, True),
            (-1, 127): (8, True),
            (-1, 128): (9, True),
            (-128, 0): (8, True),
            (-128, 127): (8, True),
            (-129, 0): (9, True),
            (-129, -129): (9, True),
            (-127, -126): (8, True),
        }
        for span, room in cases.items():
            with self.subTest(span=span):
                self.assertEqual(room_of(span), room)
                self.check_room(span)

    def test_ends_beside_powers(self):
        powers = [2 ** k for k in (0, 1, 2, 5, 23, 24, 47, 48, 63, 64, 65, 200, 600)]
        highs = [power + beside for power in powers for beside in (-1, 0, 1)]
        lows = [0] + [-power + beside for power in powers for beside in (-1, 0, 1)]
        for low in lows:
            for high in [-1, 0, low] + highs:
                if low <= high:
                    with self.subTest(low=low, high=high):
                        self.check_room((low, high))

    def test_every_small_span(self):
        for low in range(-20, 21):
            for high in range(low, 21):
                with self.subTest(low=low, high=high):
                    self.check_room((low, high))

    def test_numbers_of_two_hundred_figures(self):
        great = TWO_HUNDRED_FIGURES
        self.assertEqual(room_of((0, great)), (665, False))
        self.assertEqual(room_of((great, great)), (665, False))
        self.assertEqual(room_of((-great, -great)), (666, True))
        self.assertEqual(room_of((-great, 0)), (666, True))
        self.assertEqual(room_of((-1, great)), (666, True))
        for span in ((0, great), (-great, great), (-great, -great), (-great, 1), (-1, great), (10 ** 199, great)):
            with self.subTest(span=span):
                self.check_room(span)

    def test_room_of_a_width_is_the_width(self):
        for width in range(1, 25):
            with self.subTest(width=width):
                self.assertEqual(room_of(span_of_width(width)), (width, False))
                self.assertEqual(room_of(span_of_width(-width)), (width, True))


if __name__ == "__main__":
    unittest.main()
