import inspect
import itertools
import unittest

from dotpress import carries as carries_module
from dotpress.carries import joined, prefixes, summed
from dotpress.errors import PressError, TooMany
from dotpress.heap import press_by_order, press_by_rounds
from dotpress.sheet import Sheet, told
from samples import columns_of, heap_of, mixed_numbers, plain_depths, sheet_of_ins

SIXTY_FIGURES = 10 ** 59 + 7

SOME_SPLITS = [
    [],
    [0],
    [1],
    [5],
    [62],
    [63],
    [0, 1],
    [3, 0, 7, 2],
    [40, 11, 3, 25, 8, 1, 0, 30, 5],
    [10 ** 60],
    [SIXTY_FIGURES, 10 ** 60 - 1, 3 * 10 ** 58 + 1],
    [(7 * k * k + 3 * k + 1) * SIXTY_FIGURES % 10 ** 60 for k in range(100)],
]

ALL_64 = 2 ** 64 - 1

SOME_64 = [
    0, 1, 2, 3, ALL_64, ALL_64 - 1, 2 ** 63, 2 ** 63 - 1, 2 ** 32, 2 ** 32 - 1, 0x5555555555555555, 0xAAAAAAAAAAAAAAAA,
    0x0123456789ABCDEF, 0xFFFFFFFF00000000, 0x00FF00FF00FF00FF,
]


# For each column of a pair of ins: a tells which columns make, b which ones pass.
def sheet_of_pairs(many):
    sheet = Sheet()
    pairs = [(sheet.add(("in", "a", k)), sheet.add(("in", "b", k))) for k in range(many)]
    return sheet, pairs


# The pairs of columns 0 to k, told column by column from the lowest.
def walked_pairs(pair_bits):
    answer = []
    make, passing = 0, 1
    for make_here, pass_here in pair_bits:
        make = 1 if make_here or (pass_here and make) else 0
        passing = 1 if passing and pass_here else 0
        answer.append((make, passing))
    return answer


# Point 16, word for word; what a joining makes of two pairs is told by join.
def parted(pairs, splits, join):
    numbers = itertools.cycle(splits)

    def done(low, high):
        if high - low < 2:
            return pairs[low:high]
        if splits:
            middle = low + 1 + next(numbers) % (high - low - 1)
        else:
            middle = (low + high) // 2
        lower = done(low, middle)
        upper = done(middle, high)
        return lower + [join(pair, lower[-1]) for pair in upper]

    return done(0, len(pairs))


def joined_depths(pair_depths, splits):
    return parted(pair_depths, splits, lambda high, low: max(high, low) + 2)


def mixed_64(seed, many):
    numbers = mixed_numbers(seed)
    return [next(numbers) * 2 ** 40 ^ next(numbers) * 2 ** 15 ^ next(numbers) for turn in range(many)]


class InterfaceTest(unittest.TestCase):
    def test_arguments(self):
        wanted = {
            "joined": ["sheet", "high", "low"],
            "prefixes": ["sheet", "pairs", "splits"],
            "summed": ["sheet", "heap", "splits"],
        }
        for name, arguments in wanted.items():
            with self.subTest(name=name):
                self.assertEqual(list(inspect.signature(getattr(carries_module, name)).parameters), arguments)


class JoinedTest(unittest.TestCase):
    def check_joined(self, sheet, high, low, every):
        before = sheet.rows_now()
        pair = joined(sheet, high, low)
        rows = sheet.rows_now()
        self.assertIs(type(pair), tuple)
        self.assertEqual(len(pair), 2)
        self.assertEqual(rows[:len(before)], before)
        for words in every:
            bits = told(rows, words)
            self.assertEqual(bits[:len(before)], told(before, words))
            make = 1 if bits[high[0]] == 1 or (bits[high[1]] == 1 and bits[low[0]] == 1) else 0
            passing = 1 if bits[high[1]] == 1 and bits[low[1]] == 1 else 0
            self.assertEqual((bits[pair[0]], bits[pair[1]]), (make, passing))
        deep = plain_depths(rows)
        most = max(deep[wire] for wire in high + low) + 2
        self.assertLessEqual(deep[pair[0]], most)
        self.assertLessEqual(deep[pair[1]], most)
        return pair

    def test_every_four_wires_of_four_and_all_bits(self):
        every = [{"a": number} for number in range(16)]
        for wires in itertools.product(range(4), repeat=4):
            with self.subTest(wires=wires):
                self.check_joined(sheet_of_ins(4), wires[:2], wires[2:], every)

    def test_fix_wires(self):
        for bits in itertools.product((0, 1), repeat=4):
            with self.subTest(bits=bits):
                sheet = Sheet()
                wires = tuple(sheet.add(("fix", bit)) for bit in bits)
                self.check_joined(sheet, wires[:2], wires[2:], [{}])

    def test_wires_of_several_depths(self):
        every = [{"a": number} for number in range(16)]
        for deepest in range(4):
            sheet = sheet_of_ins(4)
            wires = [0, 1, 2, 3]
            for turn in range(6):
                wires[deepest] = sheet.add(("not", wires[deepest]))
            with self.subTest(deepest=deepest):
                self.check_joined(sheet, tuple(wires[:2]), tuple(wires[2:]), every)

    def test_joined_pairs_are_joined_again(self):
        sheet = sheet_of_ins(6)
        every = [{"a": number} for number in range(64)]
        low = self.check_joined(sheet, (2, 3), (0, 1), every)
        both = self.check_joined(sheet, (4, 5), low, every)
        self.check_joined(sheet, both, low, every)
        self.check_joined(sheet, both, both, every)


class PrefixesTest(unittest.TestCase):
    def check_prefixes(self, sheet, pairs, splits, every):
        before = sheet.rows_now()
        pairs_before = list(pairs)
        splits_before = list(splits)
        answer = prefixes(sheet, pairs, splits)
        self.assertEqual(pairs, pairs_before)
        self.assertEqual(splits, splits_before)
        rows = sheet.rows_now()
        self.assertTrue(rows[:len(before)] == before)
        self.assertIs(type(answer), list)
        self.assertTrue(all(type(pair) is tuple and len(pair) == 2 for pair in answer))
        for words in every:
            bits = told(rows, words)
            wanted = walked_pairs([(bits[make], bits[passing]) for make, passing in pairs])
            self.assertEqual([(bits[make], bits[passing]) for make, passing in answer], wanted)
        self.check_depths(rows, pairs, splits, answer)
        return answer

    def check_depths(self, rows, pairs, splits, answer):
        deep = plain_depths(rows)
        most = joined_depths([max(deep[make], deep[passing]) for make, passing in pairs], splits)
        for (make, passing), bound in zip(answer, most, strict=True):
            self.assertLessEqual(deep[make], bound)
            self.assertLessEqual(deep[passing], bound)

    # Joined word for word along the splits on another sheet: as many rows, and the same depths.
    def check_partings(self, many, splits):
        sheet, pairs = sheet_of_pairs(many)
        answer = prefixes(sheet, pairs, splits)
        other, other_pairs = sheet_of_pairs(many)
        wanted = parted(other_pairs, splits, lambda high, low: joined(other, high, low))
        self.assertEqual(len(sheet.rows_now()), len(other.rows_now()))
        deep = plain_depths(sheet.rows_now())
        other_deep = plain_depths(other.rows_now())
        self.assertEqual(
            [(deep[make], deep[passing]) for make, passing in answer],
            [(other_deep[make], other_deep[passing]) for make, passing in wanted],
        )

    def test_no_pairs(self):
        for splits in SOME_SPLITS:
            sheet = sheet_of_ins(2)
            self.assertEqual(prefixes(sheet, [], splits), [])
            self.assertEqual(sheet.rows_now(), sheet_of_ins(2).rows_now())

    def test_one_pair(self):
        for splits in SOME_SPLITS:
            sheet, pairs = sheet_of_pairs(1)
            every = [{"a": a, "b": b} for a in range(2) for b in range(2)]
            self.check_prefixes(sheet, pairs, splits, every)
            self.assertLessEqual(max(plain_depths(sheet.rows_now())), 0)

    def test_few_pairs_and_all_bits(self):
        for many in (2, 3, 4, 5):
            every = [{"a": a, "b": b} for a in range(2 ** many) for b in range(2 ** many)]
            for splits in SOME_SPLITS:
                with self.subTest(many=many, splits=splits):
                    sheet, pairs = sheet_of_pairs(many)
                    self.check_prefixes(sheet, pairs, splits, every)

    def test_sixty_four_pairs(self):
        every = [{"a": 0, "b": 0}, {"a": 1, "b": ALL_64}, {"a": 0, "b": ALL_64}, {"a": ALL_64, "b": 0}]
        every.extend({"a": 2 ** k, "b": ALL_64 - 2 ** (k * 7 % 64)} for k in range(0, 64, 9))
        mixed = mixed_64(5, 24)
        every.extend({"a": mixed[k] & mixed[k + 1], "b": mixed[k] | mixed[k + 2]} for k in range(0, 22, 3))
        for splits in SOME_SPLITS:
            with self.subTest(splits=splits):
                sheet, pairs = sheet_of_pairs(64)
                self.check_prefixes(sheet, pairs, splits, every)

    def test_partings_are_those_of_the_point(self):
        for many in (2, 3, 4, 7, 24, 64):
            for splits in SOME_SPLITS:
                with self.subTest(many=many, splits=splits):
                    self.check_partings(many, splits)

    def test_partings_of_mixed_splits(self):
        numbers = mixed_numbers(11)
        for turn in range(60):
            splits = [next(numbers) * 10 ** (next(numbers) % 51) for number in range(next(numbers) % 9)]
            many = 2 + next(numbers) % 30
            with self.subTest(many=many, splits=splits):
                self.check_partings(many, splits)

    def test_without_splits_it_is_not_deep(self):
        # Six halvings part 64 columns down to single ones.
        sheet, pairs = sheet_of_pairs(64)
        prefixes(sheet, pairs, [])
        self.assertLessEqual(max(plain_depths(sheet.rows_now())), 12)

    def test_numbers_are_taken_for_the_lower_part_first(self):
        # 3 parts 0 to 6 at 4; 1 parts 0 to 4 at 2; 0 parts 0 to 2 at 1; 3 parts 2 to 4 at 3; 1 parts 4 to 6 at 5.
        # Were the upper part done first, 0 would part 0 to 4 at 1, and column 3 would lie deeper.
        wanted = [0, 2, 4, 4, 6, 6]
        self.assertEqual(joined_depths([0] * 6, [3, 1, 0]), wanted)
        sheet, pairs = sheet_of_pairs(6)
        answer = prefixes(sheet, pairs, [3, 1, 0])
        deep = plain_depths(sheet.rows_now())
        for pair, most in zip(answer, wanted, strict=True):
            self.assertLessEqual(max(deep[wire] for wire in pair), most)

    def test_each_call_begins_at_the_first_number(self):
        splits = [9, 2, 31]
        for turn in range(2):
            self.check_partings(24, splits)

    def test_pairs_of_several_depths(self):
        for splits in SOME_SPLITS:
            sheet, pairs = sheet_of_pairs(8)
            for k in (0, 3, 7):
                make, passing = pairs[k]
                pairs[k] = (sheet.add(("xor", make, passing)), sheet.add(("not", sheet.add(("not", passing)))))
            every = [{"a": a, "b": b} for a, b in zip(mixed_64(2, 40), mixed_64(3, 40))]
            with self.subTest(splits=splits):
                self.check_prefixes(sheet, pairs, splits, every)

    def test_the_same_pair_and_the_same_wire_several_times(self):
        for splits in SOME_SPLITS:
            sheet = sheet_of_ins(3)
            every = [{"a": number} for number in range(8)]
            with self.subTest(splits=splits):
                self.check_prefixes(sheet, [(0, 1), (0, 1), (2, 2), (1, 1), (1, 0)], splits, every)

    def test_told_lists_are_the_askers_own(self):
        for many in (0, 1, 2, 5):
            sheet, pairs = sheet_of_pairs(many)
            before = list(pairs)
            splits = [1, 2]
            answer = prefixes(sheet, pairs, splits)
            wanted = list(answer)
            answer.append((0, 0))
            self.assertEqual(pairs, before)
            again = prefixes(sheet, pairs, splits)
            self.assertEqual(len(again), many)
            pairs.append((1, 1))
            splits.append(3)
            self.assertEqual(answer, wanted + [(0, 0)])
            self.assertEqual(len(again), many)

    def test_somewhat_beyond_the_bounds(self):
        for splits in ([], [0], [98], [10 ** 70, 3], list(range(150))):
            with self.subTest(splits=splits):
                sheet = Sheet()
                pairs = [(sheet.add(("in", "a", k)), sheet.add(("in", "b", k))) for k in range(100)]
                every = [{"a": a, "b": b * (2 ** 64 + 1)} for a, b in zip(SOME_64, mixed_64(9, 3))]
                self.check_prefixes(sheet, pairs, splits, every)


class SummedTest(unittest.TestCase):
    def check_summed(self, sheet, heap, splits, every):
        before = sheet.rows_now()
        columns = columns_of(heap)
        splits_before = list(splits)
        wires = summed(sheet, heap, splits)
        rows = sheet.rows_now()
        self.assertEqual(columns_of(heap), columns)
        self.assertEqual(splits, splits_before)
        self.assertTrue(rows[:len(before)] == before)
        self.assertIs(type(wires), list)
        self.assertEqual(len(wires), len(columns))
        for words in every:
            bits = told(rows, words)
            worth = sum(bits[wire] * 2 ** k for k, dots in enumerate(columns) for wire in dots) % 2 ** len(columns)
            self.assertEqual([bits[wire] for wire in wires], [worth // 2 ** k % 2 for k in range(len(columns))])
        return wires

    def check_refused(self, columns, splits):
        sheet = sheet_of_ins(8)
        heap = heap_of(columns)
        rows = sheet.rows_now()
        splits_before = list(splits)
        with self.assertRaises(TooMany) as taken:
            summed(sheet, heap, splits)
        self.assertIs(type(taken.exception), TooMany)
        self.assertIsInstance(taken.exception, PressError)
        self.assertEqual(columns_of(heap), columns)
        self.assertEqual(sheet.rows_now(), rows)
        self.assertEqual(splits, splits_before)

    def test_no_columns(self):
        for splits in SOME_SPLITS:
            sheet = sheet_of_ins(2)
            self.assertEqual(self.check_summed(sheet, heap_of([]), splits, [{"a": 3}]), [])

    def test_one_column(self):
        every = [{"a": number} for number in range(4)]
        for dots in ([], [0], [1], [0, 1], [1, 0], [1, 1]):
            for splits in SOME_SPLITS:
                with self.subTest(dots=dots, splits=splits):
                    self.check_summed(sheet_of_ins(2), heap_of([dots]), splits, every)

    def test_every_heap_of_up_to_four_columns(self):
        for many in range(5):
            for heights in itertools.product((0, 1, 2), repeat=many):
                wires = iter(range(8))
                columns = [[next(wires) for dot in range(height)] for height in heights]
                every = [{"a": number} for number in range(2 ** sum(heights))]
                with self.subTest(heights=heights):
                    self.check_summed(sheet_of_ins(8), heap_of(columns), [many, 1], every)

    def test_wires_twice(self):
        every = [{"a": number} for number in range(8)]
        cases = [
            [[0, 0]],
            [[0, 0], []],
            [[0, 0], [0, 0], [0, 0], []],
            [[0, 0], [0, 1], [1, 1], [2, 2], [], [2]],
            [[0], [0], [0], [0]],
            [[0, 1], [1, 0], [0, 1], [2], []],
        ]
        for columns in cases:
            for splits in SOME_SPLITS:
                with self.subTest(columns=columns, splits=splits):
                    self.check_summed(sheet_of_ins(3), heap_of(columns), splits, every)

    # Two numbers of so many bits, whose dots stand in the columns of their bits.
    def heap_of_two_numbers(self, many):
        sheet = Sheet()
        columns = [[sheet.add(("in", "a", k)), sheet.add(("in", "b", k))] for k in range(many)]
        return sheet, heap_of(columns)

    def test_two_numbers_of_24_and_64_bits(self):
        some = [(a, b) for a in SOME_64 for b in (0, 1, 2 ** 20, ALL_64, ALL_64 - a + 1, ALL_64 - a)]
        some.extend(zip(mixed_64(1, 20), mixed_64(4, 20)))
        every = [{"a": a, "b": b} for a, b in some]
        for many in (24, 64):
            for splits in SOME_SPLITS:
                with self.subTest(many=many, splits=splits):
                    sheet, heap = self.heap_of_two_numbers(many)
                    wires = self.check_summed(sheet, heap, splits, every[::5])
                    bits = told(sheet.rows_now(), {"a": 2 ** many - 1, "b": 1})
                    self.assertEqual([bits[wire] for wire in wires], [0] * many)
            sheet, heap = self.heap_of_two_numbers(many)
            self.check_summed(sheet, heap, [], every)

    def test_24_and_64_columns_of_several_heights(self):
        numbers = mixed_numbers(7)
        for many in (24, 64):
            for splits in SOME_SPLITS:
                columns = [[next(numbers) % 12 for dot in range(next(numbers) % 3)] for k in range(many)]
                every = [{"a": next(numbers) % 4096} for turn in range(12)] + [{"a": 0}, {"a": 4095}]
                with self.subTest(many=many, splits=splits):
                    self.check_summed(sheet_of_ins(12), heap_of(columns), splits, every)

    def test_empty_columns_alone(self):
        for many in (1, 2, 24, 64):
            self.check_summed(Sheet(), heap_of([[]] * many), [3], [{}])

    def test_without_splits_it_is_not_deep(self):
        # One gate for the column's pair, two for each of six joinings, one for the sum.
        sheet, heap = self.heap_of_two_numbers(64)
        summed(sheet, heap, [])
        self.assertLessEqual(max(plain_depths(sheet.rows_now())), 14)

    def test_splits_are_followed(self):
        # Parted at the lowest column each time, the lower part has no joining: one joining for each column.
        sheet, heap = self.heap_of_two_numbers(64)
        wires = summed(sheet, heap, [0])
        deep = plain_depths(sheet.rows_now())
        other, other_heap = self.heap_of_two_numbers(64)
        other_wires = summed(other, other_heap, [])
        other_deep = plain_depths(other.rows_now())
        self.assertGreater(max(deep[wire] for wire in wires), max(other_deep[wire] for wire in other_wires))

    def test_too_many(self):
        for splits in ([], [0], [SIXTY_FIGURES, 2]):
            for columns in (
                [[0, 1, 2]],
                [[0, 0, 0]],
                [[0, 1, 2, 3, 4, 5, 6, 7]],
                [[0, 1, 2], [], []],
                [[], [0, 1, 2, 3], [4]],
                [[0, 1], [2, 3], [4, 5, 6]],
                [[0, 1]] * 63 + [[0, 1, 2]],
            ):
                with self.subTest(columns=columns, splits=splits):
                    self.check_refused(columns, splits)

    def test_pressed_heaps_are_summed(self):
        every = [{"a": number} for number in range(256)]
        columns = [[0, 1, 2, 3, 4], [5, 6, 7, 0], [1, 2, 3], [], []]
        presses = [
            press_by_rounds,
            lambda sheet, heap: press_by_order(sheet, heap, []),
            lambda sheet, heap: press_by_order(sheet, heap, [SIXTY_FIGURES, 1, 0]),
        ]
        for press in presses:
            sheet = sheet_of_ins(8)
            heap = heap_of(columns)
            with self.assertRaises(TooMany):
                summed(sheet, heap, [])
            press(sheet, heap)
            wires = self.check_summed(sheet, heap, [2, 0], every)
            rows = sheet.rows_now()
            for words in every:
                bits = told(rows, words)
                worth = sum(bits[wire] * 2 ** k for k, dots in enumerate(columns) for wire in dots) % 32
                self.assertEqual(sum(bits[wire] * 2 ** k for k, wire in enumerate(wires)), worth)

    def test_summed_twice(self):
        sheet = sheet_of_ins(4)
        heap = heap_of([[0, 1], [2, 3], []])
        every = [{"a": number} for number in range(16)]
        first = self.check_summed(sheet, heap, [], every)
        wanted = list(first)
        second = self.check_summed(sheet, heap, [1], every)
        first.clear()
        self.assertEqual(columns_of(heap), [[0, 1], [2, 3], []])
        bits = told(sheet.rows_now(), {"a": 11})
        self.assertEqual([bits[wire] for wire in second], [bits[wire] for wire in wanted])

    def test_a_heap_changed_behind_the_call_changes_nothing(self):
        sheet = sheet_of_ins(4)
        heap = heap_of([[0, 1], [2], []])
        wires = summed(sheet, heap, [])
        wanted = list(wires)
        rows = sheet.rows_now()
        heap.put(1, 3)
        self.assertEqual(wires, wanted)
        self.assertEqual(sheet.rows_now(), rows)

    def test_somewhat_beyond_the_bounds(self):
        for splits in ([], [0], [10 ** 70 + 3, 78], list(range(150))):
            sheet = Sheet()
            columns = [[sheet.add(("in", "a", k)), sheet.add(("in", "b", k))] for k in range(80)]
            every = [{"a": a * 65537, "b": 2 ** 80 - 1 - b} for a, b in zip(SOME_64, mixed_64(8, 15))]
            with self.subTest(splits=splits):
                self.check_summed(sheet, heap_of(columns), splits, every)


if __name__ == "__main__":
    unittest.main()
