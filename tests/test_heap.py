import inspect
import unittest

from dotpress import heap as heap_module
from dotpress.errors import PressError, TooFew
from dotpress.heap import Heap, press_by_order, press_by_rounds
from dotpress.sheet import Sheet, told
from samples import columns_of, heap_of, sheet_of_ins

SIXTY_FIGURES = 10 ** 59 + 7


# What each wire tells for every number of so many bits, so that wires are known by what they tell.
def tables_of(sheet, many):
    rows = sheet.rows_now()
    return list(zip(*[told(rows, {"a": number}) for number in range(2 ** many)]))


def worths(columns, tables, many):
    answer = []
    for number in range(2 ** many):
        dots = [tables[wire][number] * 2 ** k for k, column in enumerate(columns) for wire in column]
        answer.append(sum(dots) % 2 ** len(columns))
    return answer


def pressed_table(three):
    sums = [sum(bits) for bits in zip(*three)]
    return tuple(one % 2 for one in sums), tuple(one // 2 for one in sums)


# The same deeds done to columns of tables, the plain way, to hold the heap's against.
def plain_press(columns, k):
    odd, carry = pressed_table(columns[k][:3])
    columns[k] = columns[k][3:] + [odd]
    if k + 1 < len(columns):
        columns[k + 1] = columns[k + 1] + [carry]


def plain_press_by_order(columns, order):
    pressed = []
    while any(len(column) >= 3 for column in columns):
        high = [k for k, column in enumerate(columns) if len(column) >= 3]
        number = order[len(pressed) % len(order)] if order else 0
        k = high[number % len(high)]
        plain_press(columns, k)
        pressed.append(k)
    return pressed


def plain_press_by_rounds(columns):
    rounds = 0
    while any(len(column) >= 3 for column in columns):
        left = [column[len(column) // 3 * 3:] for column in columns]
        carries = [[] for column in columns] + [[]]
        odds = [[] for column in columns]
        for k, column in enumerate(columns):
            for begin in range(0, len(column) - 2, 3):
                odd, carry = pressed_table(column[begin:begin + 3])
                odds[k].append(odd)
                carries[k + 1].append(carry)
        for k in range(len(columns)):
            columns[k] = left[k] + carries[k] + odds[k]
        rounds = rounds + 1
    return rounds


# Columns of wires 0 to 7, of each kind: none, low and high ones, the last one high too, a wire several times.
SOME_COLUMNS = [
    [],
    [[]],
    [[], [], []],
    [[0]],
    [[0, 1], [2, 3], [4, 5]],
    [[0, 1, 2]],
    [[0, 1, 2, 3, 4, 5, 6, 7]],
    [[0, 1, 2], []],
    [[0, 1, 2, 3, 4, 5, 6, 7], [], [], []],
    [[0, 1, 2], [3, 4, 5], [6, 7]],
    [[], [0, 1, 2, 3], [], [4, 5, 6, 7]],
    [[0, 1, 2, 3, 4], [5, 6, 7], [0, 2, 4, 6], [1, 3, 5, 7]],
    [[0, 0, 0], [1, 1, 2], [3, 4, 3, 5, 5]],
    [[7, 6, 5, 4, 3, 2, 1, 0] * 2, [0, 1, 2, 3], [], [5, 5, 5, 5, 5], [], []],
    [[k % 8, (k + 3) % 8, (k + 5) % 8] for k in range(6)],
]

SOME_ORDERS = [
    [],
    [0],
    [1],
    [2, 0, 1],
    [5, 3, 8, 1, 1, 0, 7],
    [SIXTY_FIGURES],
    [10 ** 60, SIXTY_FIGURES, 10 ** 60 - 1, 3 * 10 ** 58 + 1],
    [(7 * k * k + k) * SIXTY_FIGURES % 10 ** 60 for k in range(100)],
]


class InterfaceTest(unittest.TestCase):
    def test_arguments(self):
        heap = Heap(2)
        wanted = [
            (Heap, ["many"]),
            (heap.put, ["column", "wire"]),
            (heap.heights, []),
            (heap.column, ["k"]),
            (heap.press, ["sheet", "k"]),
            (heap_module.press_by_order, ["sheet", "heap", "order"]),
            (heap_module.press_by_rounds, ["sheet", "heap"]),
        ]
        for asked, arguments in wanted:
            with self.subTest(asked=asked):
                self.assertEqual(list(inspect.signature(asked).parameters), arguments)


class HeapTest(unittest.TestCase):
    def test_a_new_heap_has_no_dots(self):
        for many in (0, 1, 2, 63, 64):
            heap = Heap(many)
            with self.subTest(many=many):
                self.assertIs(type(heap.heights()), list)
                self.assertEqual(heap.heights(), [0] * many)
                for k in range(many):
                    self.assertIs(type(heap.column(k)), list)
                    self.assertEqual(heap.column(k), [])

    def test_put_tells_nothing(self):
        heap = Heap(1)
        self.assertIsNone(heap.put(0, 5))
        self.assertIsNone(heap.put(1, 5))

    def test_dots_lie_in_the_order_in_which_they_came(self):
        heap = Heap(3)
        for column, wire in [(1, 9), (0, 4), (1, 2), (1, 9), (0, 0), (1, 5), (1, 2)]:
            heap.put(column, wire)
        self.assertEqual(columns_of(heap), [[4, 0], [9, 2, 9, 5, 2], []])
        self.assertEqual(heap.heights(), [2, 5, 0])
        self.assertEqual([type(height) for height in heap.heights()], [int] * 3)

    def test_dots_beyond_the_last_column_are_passed_over(self):
        for many in (0, 1, 5, 64):
            heap = Heap(many)
            for column in (many, many + 1, many + 64, 10 ** 6):
                heap.put(column, 3)
            with self.subTest(many=many):
                self.assertEqual(heap.heights(), [0] * many)
                self.assertEqual(columns_of(heap), [[]] * many)

    def test_every_column_of_sixty_four(self):
        heap = Heap(64)
        for k in range(65):
            for turn in range(k % 5):
                heap.put(k, 10 * k + turn)
        self.assertEqual(heap.heights(), [k % 5 for k in range(64)])
        for k in range(64):
            self.assertEqual(heap.column(k), [10 * k + turn for turn in range(k % 5)])

    def test_somewhat_beyond_the_bounds(self):
        heap = Heap(70)
        heap.put(69, 1)
        heap.put(70, 1)
        self.assertEqual(heap.heights(), [0] * 69 + [1])
        self.assertEqual(heap.column(70), [])
        self.assertEqual(Heap(0).column(0), [])

    def test_told_lists_are_the_askers_own(self):
        heap = heap_of([[1, 2], []])
        heights = heap.heights()
        first = heap.column(0)
        second = heap.column(1)
        heights[0] = 7
        heights.append(1)
        first.clear()
        second.append(3)
        self.assertEqual(heap.heights(), [2, 0])
        self.assertEqual(columns_of(heap), [[1, 2], []])

    def test_lists_told_earlier_stay(self):
        sheet = sheet_of_ins(4)
        heap = heap_of([[0, 1, 2, 3], []])
        heights = heap.heights()
        first = heap.column(0)
        second = heap.column(1)
        heap.put(1, 3)
        heap.press(sheet, 0)
        self.assertEqual(heights, [4, 0])
        self.assertEqual(first, [0, 1, 2, 3])
        self.assertEqual(second, [])

    def test_two_heaps_know_nothing_of_one_another(self):
        one = Heap(2)
        other = Heap(2)
        for wire in (0, 1, 2):
            one.put(0, wire)
        self.assertEqual(other.heights(), [0, 0])
        other.put(0, 7)
        other.put(1, 8)
        self.assertEqual(columns_of(one), [[0, 1, 2], []])
        one.press(sheet_of_ins(3), 0)
        self.assertEqual(one.heights(), [1, 1])
        self.assertEqual(columns_of(other), [[7], [8]])
        self.assertEqual(Heap(2).heights(), [0, 0])

    def test_columns_of_one_heap_know_nothing_of_one_another(self):
        heap = Heap(3)
        heap.put(1, 4)
        self.assertEqual(columns_of(heap), [[], [4], []])


class PressTest(unittest.TestCase):
    def check_press(self, columns, k, bits):
        sheet = sheet_of_ins(bits)
        rows_before = sheet.rows_now()
        heap = heap_of(columns)
        before = worths(columns, tables_of(sheet, bits), bits)
        made = heap.press(sheet, k)
        self.assertIs(type(made), tuple)
        self.assertEqual([type(wire) for wire in made], [int, int])
        odd, carry = made
        wanted = [list(dots) for dots in columns]
        wanted[k] = columns[k][3:] + [odd]
        if k + 1 < len(columns):
            wanted[k + 1] = columns[k + 1] + [carry]
        self.assertEqual(columns_of(heap), wanted)
        self.assertEqual(heap.heights(), [len(dots) for dots in wanted])
        tables = tables_of(sheet, bits)
        three = [tables[wire] for wire in columns[k][:3]]
        self.assertEqual((tables[odd], tables[carry]), pressed_table(three))
        self.assertEqual(worths(wanted, tables, bits), before)
        self.assertEqual(sheet.rows_now()[:len(rows_before)], rows_before)
        self.check_new_rows(sheet.rows_now(), len(rows_before))

    def check_new_rows(self, rows, old):
        for wire in range(old, len(rows)):
            self.assertIs(type(rows[wire]), tuple)
            self.assertIn(rows[wire][0], ("fix", "not", "and", "or", "xor"))

    def test_three_dots(self):
        self.check_press([[0, 1, 2], []], 0, 3)
        self.check_press([[], [2, 0, 1], []], 1, 3)

    def test_more_dots(self):
        self.check_press([[0, 1, 2, 3], []], 0, 4)
        self.check_press([[4, 3, 2, 1, 0], [5]], 0, 6)
        self.check_press([[5], [4, 3, 2, 1, 0, 5], [0, 1, 2, 3]], 1, 6)

    def test_the_last_column(self):
        self.check_press([[0, 1, 2]], 0, 3)
        self.check_press([[3], [0, 1, 2, 3]], 1, 4)
        self.check_press([[]] * 63 + [[0, 1, 2]], 63, 3)

    def test_one_wire_several_times(self):
        for dots in ([0, 0, 0], [0, 0, 1], [0, 1, 0], [1, 0, 0], [0, 0, 0, 0], [0, 1, 1, 0]):
            with self.subTest(dots=dots):
                self.check_press([dots, []], 0, 2)
                self.check_press([dots], 0, 2)
                self.check_press([dots, dots], 0, 2)

    def test_fix_dots(self):
        sheet = Sheet()
        for bit in (1, 1, 1):
            sheet.add(("fix", bit))
        heap = heap_of([[0, 1, 2], []])
        odd, carry = heap.press(sheet, 0)
        bits = told(sheet.rows_now(), {})
        self.assertEqual((bits[odd], bits[carry]), (1, 1))

    def test_a_column_pressed_again_and_again(self):
        sheet = sheet_of_ins(8)
        heap = heap_of([[0, 1, 2, 3, 4, 5, 6, 7], []])
        made = [heap.press(sheet, 0) for turn in range(3)]
        self.assertEqual(columns_of(heap), [[made[1][0], made[2][0]], [carry for odd, carry in made]])
        tables = tables_of(sheet, 8)
        threes = [[0, 1, 2], [3, 4, 5], [6, 7, made[0][0]]]
        for three, (odd, carry) in zip(threes, made):
            self.assertEqual((tables[odd], tables[carry]), pressed_table([tables[wire] for wire in three]))

    def test_dots_put_between_presses(self):
        sheet = sheet_of_ins(6)
        heap = heap_of([[0, 1, 2, 3]])
        first = heap.press(sheet, 0)[0]
        heap.put(0, 4)
        self.assertEqual(heap.column(0), [3, first, 4])
        second = heap.press(sheet, 0)[0]
        heap.put(0, 5)
        self.assertEqual(heap.column(0), [second, 5])
        self.assertEqual(heap.heights(), [2])

    def test_two_sheets_of_two_heaps(self):
        one = sheet_of_ins(3)
        other = sheet_of_ins(3)
        heap_of([[0, 1, 2]]).press(one, 0)
        self.assertEqual(len(other.rows_now()), 3)
        self.assertGreater(len(one.rows_now()), 3)

    def test_too_few(self):
        for dots in ([], [0], [0, 1], [0, 0]):
            for columns in ([dots], [dots, []], [dots, [0, 1, 2]]):
                with self.subTest(columns=columns):
                    self.check_refused(columns, 0)
            with self.subTest(dots=dots):
                self.check_refused([[0, 1, 2], dots], 1)

    def check_refused(self, columns, k):
        sheet = sheet_of_ins(3)
        rows = sheet.rows_now()
        heap = heap_of(columns)
        with self.assertRaises(TooFew) as taken:
            heap.press(sheet, k)
        self.assertIs(type(taken.exception), TooFew)
        self.assertIsInstance(taken.exception, PressError)
        self.assertEqual(columns_of(heap), columns)
        self.assertEqual(heap.heights(), [len(dots) for dots in columns])
        self.assertEqual(sheet.rows_now(), rows)

    def test_too_few_behind_a_press(self):
        sheet = sheet_of_ins(4)
        heap = heap_of([[0, 1, 2, 3], []])
        odd, carry = heap.press(sheet, 0)
        rows = sheet.rows_now()
        for k in (0, 1):
            with self.assertRaises(TooFew):
                heap.press(sheet, k)
        self.assertEqual(columns_of(heap), [[3, odd], [carry]])
        self.assertEqual(sheet.rows_now(), rows)

    def test_beyond_the_last_column_there_are_too_few(self):
        for columns in ([], [[0, 1, 2]]):
            with self.subTest(columns=columns):
                self.check_refused(columns, len(columns))


class PressedCase(unittest.TestCase):
    # The deed is done to a heap on a sheet, the plain one to the same columns of tables.
    def check_pressed(self, columns, deed, plain_deed):
        sheet = sheet_of_ins(8)
        rows_before = sheet.rows_now()
        heap = heap_of(columns)
        tables = tables_of(sheet, 8)
        before = worths(columns, tables, 8)
        wanted = [[tables[wire] for wire in dots] for dots in columns]
        wanted_answer = plain_deed(wanted)
        answer = deed(sheet, heap)
        self.assertIs(type(answer), type(wanted_answer))
        self.assertEqual(answer, wanted_answer)
        self.assertLess(max(heap.heights(), default=0), 3)
        tables = tables_of(sheet, 8)
        self.assertTrue([[tables[wire] for wire in dots] for dots in columns_of(heap)] == wanted)
        self.assertTrue(worths(columns_of(heap), tables, 8) == before)
        self.assertEqual(sheet.rows_now()[:8], rows_before)
        self.check_second_deed(sheet, heap, deed, answer)
        return answer

    def check_second_deed(self, sheet, heap, deed, answer):
        rows = sheet.rows_now()
        columns = columns_of(heap)
        self.assertEqual(deed(sheet, heap), type(answer)())
        self.assertEqual(sheet.rows_now(), rows)
        self.assertEqual(columns_of(heap), columns)

    def check_sum(self, sheet, heap, many):
        bits = told(sheet.rows_now(), {"a": 1})
        self.assertEqual(sum(bits[wire] * 2 ** k for k, dots in enumerate(columns_of(heap)) for wire in dots), many)


class PressByOrderTest(PressedCase):
    def check_order(self, columns, order):
        order_before = list(order)
        pressed = self.check_pressed(
            columns,
            lambda sheet, heap: press_by_order(sheet, heap, order),
            lambda tables: plain_press_by_order(tables, order_before),
        )
        self.assertEqual(order, order_before)
        return pressed

    def test_some_columns_by_some_orders(self):
        for columns in SOME_COLUMNS:
            for order in SOME_ORDERS:
                with self.subTest(columns=columns, order=order):
                    self.check_order(columns, order)

    def test_nothing_to_press(self):
        for columns in ([], [[]], [[0, 1], [2, 3]]):
            with self.subTest(columns=columns):
                self.assertEqual(self.check_order(columns, [3, 1]), [])
                self.assertEqual(self.check_order(columns, []), [])

    def test_without_numbers_the_lowest_goes_first(self):
        self.assertEqual(self.check_order([[], [0, 1, 2], [3, 4, 5], [6, 7, 0]], []), [1, 2, 3])

    def test_the_rest_by_how_many_columns_are_high(self):
        # High are 0, 2, 3 (7 by 3 rests 1: column 2), then 0, 3 (4 by 2 rests 0: column 0), then 3 alone.
        columns = [[0, 1, 2], [], [3, 4, 5], [6, 7, 0, 1]]
        self.assertEqual(self.check_order(columns, [7, 4, 5]), [2, 0, 3, 3])

    def test_fewer_numbers_than_presses(self):
        columns = [[0, 1, 2], [3, 4, 5], [6, 7, 0], [1, 2, 3], [4, 5, 6]]
        self.assertEqual(self.check_order(columns, [1, 0]), [1, 0, 3, 2, 4])
        self.assertEqual(self.check_order(columns, [0]), [0, 1, 2, 3, 4])
        self.assertEqual(self.check_order(columns, [2]), [2, 3, 4, 0, 1])

    def test_numbers_of_sixty_figures(self):
        columns = [[0, 1, 2], [3, 4, 5], [6, 7, 0]]
        # By 3 these numbers rest 1, 0 and 2.
        for number, k in [(10 ** 60, 1), (10 ** 60 - 1, 0), (10 ** 60 - 2, 2)]:
            with self.subTest(number=number):
                self.assertEqual(self.check_order(columns, [number])[0], k)

    def test_each_call_begins_at_the_first_number(self):
        sheet = sheet_of_ins(8)
        order = [1, 0, 0]
        for turn in range(2):
            self.assertEqual(press_by_order(sheet, heap_of([[0, 1, 2], [3, 4, 5]]), order), [1, 0])

    def test_told_lists_are_the_askers_own(self):
        sheet = sheet_of_ins(8)
        heap = heap_of([[0, 1, 2]])
        order = [0]
        pressed = press_by_order(sheet, heap, order)
        pressed.append(5)
        self.assertEqual(order, [0])
        self.assertEqual(heap.heights(), [1])
        self.assertEqual(press_by_order(sheet, heap, order), [])

    def test_an_order_changed_behind_the_call_changes_nothing(self):
        sheet = sheet_of_ins(8)
        order = [1]
        pressed = press_by_order(sheet, heap_of([[0, 1, 2], [3, 4, 5]]), order)
        order[0] = 0
        self.assertEqual(pressed, [1, 0])

    def test_a_high_column(self):
        sheet = sheet_of_ins(1)
        heap = heap_of([[0] * 10000] + [[]] * 63)
        press_by_order(sheet, heap, [SIXTY_FIGURES, 3])
        self.assertLess(max(heap.heights()), 3)
        self.check_sum(sheet, heap, 10000)


class PressByRoundsTest(PressedCase):
    def check_rounds(self, columns):
        return self.check_pressed(columns, press_by_rounds, plain_press_by_rounds)

    def test_some_columns(self):
        for columns in SOME_COLUMNS:
            with self.subTest(columns=columns):
                self.check_rounds(columns)

    def test_known_numbers_of_rounds(self):
        cases = [
            ([], 0),
            ([[], []], 0),
            ([[0, 1], [2, 3]], 0),
            ([[0, 1, 2]], 1),
            ([[0, 1, 2, 3]], 1),
            ([[0, 1, 2, 3, 4]], 2),
            ([[0, 1, 2, 3, 4, 5]], 1),
            ([[0, 1, 2, 3, 4, 5, 6]], 2),
            ([[0, 1, 2, 3, 4, 5, 6, 7, 0]], 2),
            ([[0, 1, 2], [3, 4]], 2),
            ([[0, 1, 2], [3, 4, 5]], 1),
            ([[0, 1, 2], [3, 4, 5], [6, 7, 0]], 1),
        ]
        for columns, rounds in cases:
            with self.subTest(columns=columns):
                self.assertEqual(self.check_rounds(columns), rounds)

    def test_carries_lie_ahead_of_the_odd_ones_and_behind_what_is_left(self):
        sheet = sheet_of_ins(10)
        heap = heap_of([[0, 1, 2], [3, 4, 5]])
        self.assertEqual(press_by_rounds(sheet, heap), 1)
        tables = tables_of(sheet, 10)
        low = pressed_table(tables[0:3])
        high = pressed_table(tables[3:6])
        self.assertEqual(heap.heights(), [1, 2])
        self.assertTrue([tables[wire] for wire in heap.column(1)] == [low[1], high[0]])
        sheet = sheet_of_ins(10)
        heap = heap_of([[0, 1, 2, 3], [4]])
        self.assertEqual(press_by_rounds(sheet, heap), 1)
        tables = tables_of(sheet, 10)
        low = pressed_table(tables[0:3])
        self.assertTrue([tables[wire] for wire in heap.column(0)] == [tables[3], low[0]])
        self.assertTrue([tables[wire] for wire in heap.column(1)] == [tables[4], low[1]])

    def test_what_a_round_puts_is_not_pressed_in_it(self):
        # The left dot, the carry and the odd one of column 1 are three, but wait for the second round.
        self.assertEqual(self.check_rounds([[0, 1, 2], [3, 4, 5, 6]]), 2)

    def test_the_last_column_loses_its_carries(self):
        sheet = sheet_of_ins(8)
        heap = heap_of([[0, 1, 2, 3, 4, 5]])
        self.assertEqual(press_by_rounds(sheet, heap), 1)
        tables = tables_of(sheet, 8)
        wanted = [pressed_table(tables[0:3])[0], pressed_table(tables[3:6])[0]]
        self.assertTrue([tables[wire] for wire in heap.column(0)] == wanted)

    def test_sixty_four_columns(self):
        columns = [[k % 8, (3 * k + 1) % 8, (5 * k + 2) % 8, (k + 4) % 8][:1 + k % 4] for k in range(64)]
        self.check_rounds(columns)

    def test_behind_presses_by_hand(self):
        sheet = sheet_of_ins(8)
        heap = heap_of([[0, 1, 2, 3, 4, 5, 6, 7], []])
        heap.press(sheet, 0)
        wanted = [[3, 4, 5, 6, 7, heap.column(0)[-1]], heap.column(1)]
        self.assertEqual(columns_of(heap), wanted)
        tables = tables_of(sheet, 8)
        plain = [[tables[wire] for wire in dots] for dots in wanted]
        self.assertEqual(press_by_rounds(sheet, heap), plain_press_by_rounds(plain))
        tables = tables_of(sheet, 8)
        self.assertTrue([[tables[wire] for wire in dots] for dots in columns_of(heap)] == plain)

    def test_a_high_column(self):
        sheet = sheet_of_ins(1)
        heap = heap_of([[0] * 10000] + [[]] * 63)
        plain = [10000] + [0] * 63
        rounds = 0
        while max(plain) >= 3:
            plain = [plain[k] - 2 * (plain[k] // 3) + (plain[k - 1] // 3 if k else 0) for k in range(64)]
            rounds = rounds + 1
        self.assertEqual(press_by_rounds(sheet, heap), rounds)
        self.assertEqual(heap.heights(), plain)
        self.check_sum(sheet, heap, 10000)


if __name__ == "__main__":
    unittest.main()
