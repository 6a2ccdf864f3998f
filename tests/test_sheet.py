import copy
import inspect
import unittest

from dotpress import sheet
from dotpress.sheet import Sheet, beats, told

EVERY_TWO_BITS = [(0, 0), (0, 1), (1, 0), (1, 1)]

TABLES = {
    "and": [0, 0, 0, 1],
    "or": [0, 1, 1, 1],
    "xor": [0, 1, 1, 0],
}

MIXED_ROWS = [
    ("in", "a", 0),
    ("in", "b", 0),
    ("fix", 1),
    ("xor", 0, 1),
    ("and", 0, 1),
    ("not", 3),
    ("or", 5, 4),
    ("and", 6, 2),
]


class InterfaceTest(unittest.TestCase):
    def test_arguments(self):
        self.assertEqual(list(inspect.signature(Sheet).parameters), [])
        self.assertEqual(list(inspect.signature(Sheet().add).parameters), ["row"])
        self.assertEqual(list(inspect.signature(Sheet().rows_now).parameters), [])
        self.assertEqual(list(inspect.signature(sheet.told).parameters), ["rows", "words"])
        self.assertEqual(list(inspect.signature(sheet.beats).parameters), ["rows", "some"])


class SheetTest(unittest.TestCase):
    def test_each_wire_is_the_number_of_rows_ahead(self):
        kept = Sheet()
        rows = [("fix", 0), ("in", "a", 3), ("not", 0), ("and", 0, 1), ("or", 1, 2), ("xor", 3, 4), ("latch", 5)]
        for number, row in enumerate(rows):
            wire = kept.add(row)
            self.assertIs(type(wire), int)
            self.assertEqual(wire, number)
            self.assertEqual(kept.rows_now(), rows[:number + 1])

    def test_a_row_like_an_older_one_is_a_new_wire(self):
        kept = Sheet()
        self.assertEqual([kept.add(("fix", 1)) for turn in range(3)], [0, 1, 2])
        self.assertEqual(kept.rows_now(), [("fix", 1)] * 3)

    def test_kinds(self):
        kept = Sheet()
        self.assertEqual(kept.rows_now(), [])
        self.assertIs(type(kept.rows_now()), list)
        kept.add(("fix", 1))
        self.assertIs(type(kept.rows_now()), list)
        self.assertIs(type(kept.rows_now()[0]), tuple)

    def test_two_sheets_know_nothing_of_one_another(self):
        one = Sheet()
        other = Sheet()
        one.add(("fix", 0))
        one.add(("fix", 1))
        self.assertEqual(other.rows_now(), [])
        self.assertEqual(other.add(("in", "a", 0)), 0)
        self.assertEqual(one.rows_now(), [("fix", 0), ("fix", 1)])
        self.assertEqual(other.rows_now(), [("in", "a", 0)])
        self.assertEqual(one.add(("not", 1)), 2)
        self.assertEqual(Sheet().rows_now(), [])

    def test_a_changed_list_changes_nothing(self):
        kept = Sheet()
        kept.add(("fix", 0))
        kept.add(("not", 0))
        rows = kept.rows_now()
        rows.append(("fix", 1))
        rows[0] = ("fix", 1)
        self.assertEqual(kept.rows_now(), [("fix", 0), ("not", 0)])
        kept.rows_now().clear()
        self.assertEqual(kept.rows_now(), [("fix", 0), ("not", 0)])
        self.assertEqual(kept.add(("and", 0, 1)), 2)

    def test_a_list_told_earlier_stays(self):
        kept = Sheet()
        nothing = kept.rows_now()
        kept.add(("fix", 0))
        one = kept.rows_now()
        kept.add(("not", 0))
        self.assertEqual(nothing, [])
        self.assertEqual(one, [("fix", 0)])


class ToldTest(unittest.TestCase):
    def check_told(self, rows, words, wanted):
        bits = told(rows, words)
        self.assertIs(type(bits), list)
        self.assertEqual(bits, wanted)
        for bit in bits:
            self.assertIs(type(bit), int)

    def test_no_rows(self):
        self.check_told([], {}, [])
        self.check_told([], {"a": 1}, [])

    def test_fix(self):
        self.check_told([("fix", 0), ("fix", 1)], {}, [0, 1])

    def test_not(self):
        self.check_told([("fix", 0), ("fix", 1), ("not", 0), ("not", 1)], {}, [0, 1, 1, 0])

    def test_gates_of_two_wires(self):
        for kind, table in TABLES.items():
            for (first, second), wanted in zip(EVERY_TWO_BITS, table):
                with self.subTest(kind=kind, first=first, second=second):
                    self.check_told([("fix", first), ("fix", second), (kind, 0, 1)], {}, [first, second, wanted])
                    self.check_told([("fix", first), ("fix", second), (kind, 1, 0)], {}, [first, second, wanted])
                    rows = [("in", "a", 0), ("in", "b", 0), (kind, 0, 1)]
                    self.check_told(rows, {"a": first, "b": second}, [first, second, wanted])

    def test_the_same_wire_twice(self):
        for bit in (0, 1):
            rows = [("fix", bit), ("and", 0, 0), ("or", 0, 0), ("xor", 0, 0)]
            self.check_told(rows, {}, [bit, bit, bit, 0])

    def test_known_in_bits(self):
        rows = [("in", "a", 0), ("in", "a", 1), ("in", "a", 2), ("in", "a", 63)]
        self.check_told(rows, {"a": 0}, [0, 0, 0, 0])
        self.check_told(rows, {"a": 6}, [0, 1, 1, 0])
        self.check_told(rows, {"a": -1}, [1, 1, 1, 1])
        self.check_told(rows, {"a": -6}, [0, 1, 0, 1])
        self.check_told(rows, {"a": 2 ** 63}, [0, 0, 0, 1])
        self.check_told(rows, {"a": 2 ** 64}, [0, 0, 0, 0])
        self.check_told(rows, {"a": -(2 ** 63)}, [0, 0, 0, 1])
        self.check_told(rows, {"a": -(2 ** 64)}, [0, 0, 0, 0])

    def test_every_in_bit(self):
        rows = [("in", "word", k) for k in range(64)]
        for number in (0, 1, -1, 5, -5, 123456789, -123456789, 2 ** 62, -(2 ** 62) - 1, 10 ** 60 - 1, -(10 ** 60) + 1):
            with self.subTest(number=number):
                self.check_told(rows, {"word": number}, [number // 2 ** k % 2 for k in range(64)])

    def test_a_lone_in_row(self):
        for k in (0, 1, 31, 63):
            for number in (2 ** k, -(2 ** k)):
                with self.subTest(k=k, number=number):
                    self.check_told([("in", "b", k)], {"b": number}, [1])
                    self.check_told([("in", "b", k)], {"b": 2 * number}, [0])

    def test_in_bits_somewhat_beyond_the_bounds(self):
        rows = [("in", "a", 64), ("in", "a", 100)]
        self.check_told(rows, {"a": 2 ** 100}, [0, 1])
        self.check_told(rows, {"a": -(2 ** 100)}, [0, 1])

    def test_each_name_has_its_own_number(self):
        rows = [("in", "a", 1), ("in", "aa", 1), ("in", "zzzzzz", 1), ("in", "a", 0)]
        self.check_told(rows, {"zzzzzz": 2, "aa": 1, "a": -1}, [1, 0, 1, 1])

    def test_names_that_no_row_reads(self):
        self.check_told([("in", "a", 0)], {"a": 1, "b": 0, "c": -7}, [1])
        self.check_told([("fix", 1)], {"b": 5}, [1])

    def test_several_dicts_by_the_same_rows(self):
        for first, second in EVERY_TWO_BITS + EVERY_TWO_BITS:
            same = 1 if first == second else 0
            both = first * second
            wanted = [first, second, 1, 1 - same, both, same, same, same]
            with self.subTest(first=first, second=second):
                self.check_told(MIXED_ROWS, {"a": first, "b": second}, wanted)

    def test_a_changed_answer_changes_no_later_one(self):
        words = {"a": 1, "b": 0}
        wanted = [1, 0, 1, 1, 0, 0, 0, 0]
        bits = told(MIXED_ROWS, words)
        bits[0] = 0
        bits.append(1)
        self.check_told(MIXED_ROWS, words, wanted)

    def test_a_changed_dict_and_changed_rows_change_no_earlier_answer(self):
        rows = [("in", "a", 0), ("not", 0)]
        words = {"a": 1}
        bits = told(rows, words)
        words["a"] = 0
        rows[1] = ("fix", 1)
        rows.append(("fix", 1))
        self.assertEqual(bits, [1, 0])
        self.check_told(rows, words, [0, 1, 1])
        self.check_told([("in", "a", 0), ("not", 0)], {"a": 1}, [1, 0])

    def test_rows_and_dicts_handed_in_stay(self):
        rows = list(MIXED_ROWS)
        words = {"b": -3, "a": 4, "c": 1}
        told(rows, words)
        self.assertEqual(rows, MIXED_ROWS)
        self.assertEqual(list(words.items()), [("b", -3), ("a", 4), ("c", 1)])

    def test_rows_of_a_sheet(self):
        kept = Sheet()
        first = kept.add(("in", "a", 0))
        second = kept.add(("in", "a", 1))
        out = kept.add(("xor", first, second))
        self.assertEqual([told(kept.rows_now(), {"a": number})[out] for number in range(4)], [0, 1, 1, 0])

    def test_sixty_thousand_rows(self):
        rows = [("in", "a", 63)] + [("not", wire) for wire in range(59999)]
        # Not by assertEqual: to write out how two lists so long differ takes it minutes.
        self.assertTrue(told(rows, {"a": -1}) == [1, 0] * 30000)


class BeatsTest(unittest.TestCase):
    def test_no_dict(self):
        self.assertEqual(beats([], []), [])
        self.assertEqual(beats([("fix", 1), ("latch", 0)], []), [])

    def test_no_rows(self):
        self.assertEqual(beats([], [{}, {"a": 1}]), [[], []])

    def test_one_dict(self):
        rows = [("in", "a", 0), ("latch", 0), ("fix", 1), ("latch", 2), ("not", 3)]
        self.assertEqual(beats(rows, [{"a": 1}]), [[1, 0, 1, 0, 1]])
        self.assertEqual(beats(rows, [{"a": 0}]), [[0, 0, 1, 0, 1]])

    def test_kinds(self):
        answer = beats([("in", "a", 0), ("latch", 0), ("not", 1)], [{"a": 1}, {"a": 0}])
        self.assertIs(type(answer), list)
        for bits in answer:
            self.assertIs(type(bits), list)
            for bit in bits:
                self.assertIs(type(bit), int)

    def test_a_latch_tells_the_beat_before(self):
        rows = [("in", "a", 2), ("latch", 0)]
        some = [{"a": number} for number in (4, 0, -1, 3, 7)]
        self.assertEqual(beats(rows, some), [[1, 0], [0, 1], [1, 0], [0, 1], [1, 0]])

    def test_latches_of_latches(self):
        rows = [("in", "a", 0), ("latch", 0), ("latch", 1), ("latch", 2)]
        some = [{"a": number} for number in (1, 1, 0, 1, 0, 0)]
        wanted = [
            [1, 0, 0, 0],
            [1, 1, 0, 0],
            [0, 1, 1, 0],
            [1, 0, 1, 1],
            [0, 1, 0, 1],
            [0, 0, 1, 0],
        ]
        self.assertEqual(beats(rows, some), wanted)

    def test_gates_of_latches_and_latches_of_gates(self):
        rows = [("in", "a", 0), ("not", 0), ("latch", 1), ("xor", 0, 2), ("latch", 3), ("or", 2, 4)]
        some = [{"a": number} for number in (0, 1, 1, 0)]
        wanted = [
            [0, 1, 0, 0, 0, 0],
            [1, 0, 1, 0, 0, 1],
            [1, 0, 0, 1, 0, 0],
            [0, 1, 0, 0, 1, 1],
        ]
        self.assertEqual(beats(rows, some), wanted)

    def test_a_latch_of_a_wire_that_is_always_one(self):
        self.assertEqual(beats([("fix", 1), ("latch", 0)], [{}, {}, {}]), [[1, 0], [1, 1], [1, 1]])

    def test_forty_dicts(self):
        rows = [("in", "a", k) for k in range(6)] + [("latch", k) for k in range(6)]
        numbers = [(7 * beat) % 64 - 20 for beat in range(40)]
        answer = beats(rows, [{"a": number} for number in numbers])
        self.assertEqual(len(answer), 40)
        for beat, bits in enumerate(answer):
            now = [numbers[beat] // 2 ** k % 2 for k in range(6)]
            before = [numbers[beat - 1] // 2 ** k % 2 for k in range(6)] if beat > 0 else [0] * 6
            with self.subTest(beat=beat):
                self.assertEqual(bits, now + before)

    def test_more_than_forty_dicts(self):
        self.assertEqual(beats([("fix", 1), ("latch", 0)], [{}] * 50), [[1, 0]] + [[1, 1]] * 49)

    def test_rows_without_latches_tell_the_same_at_every_beat(self):
        some = [{"a": first, "b": second} for first, second in EVERY_TWO_BITS + EVERY_TWO_BITS[::-1]]
        self.assertEqual(beats(MIXED_ROWS, some), [told(MIXED_ROWS, words) for words in some])

    def test_the_same_dict_at_several_beats(self):
        rows = [("in", "a", 0), ("latch", 0), ("latch", 1)]
        words = {"a": 1}
        self.assertEqual(beats(rows, [words] * 3), [[1, 0, 0], [1, 1, 0], [1, 1, 1]])
        other = {"a": 0}
        self.assertEqual(beats(rows, [words, other, words]), [[1, 0, 0], [0, 1, 0], [1, 0, 1]])

    def test_each_call_begins_at_beat_nought(self):
        rows = [("in", "a", 0), ("latch", 0)]
        some = [{"a": 1}, {"a": 1}]
        self.assertEqual(beats(rows, some), [[1, 0], [1, 1]])
        self.assertEqual(beats(rows, some), [[1, 0], [1, 1]])

    def test_changed_answers_change_nothing(self):
        rows = [("fix", 1), ("latch", 0)]
        some = [{}, {}, {}]
        answer = beats(rows, some)
        answer[0][0] = 0
        answer[0].append(1)
        self.assertEqual(answer[1:], [[1, 1], [1, 1]])
        answer[1].clear()
        self.assertEqual(answer[2], [1, 1])
        answer.clear()
        self.assertEqual(beats(rows, some), [[1, 0], [1, 1], [1, 1]])

    def test_no_two_told_lists_are_one(self):
        answer = beats([("fix", 1)], [{}] * 5) + beats([("fix", 1)], [{}] * 5)
        self.assertEqual(len({id(bits) for bits in answer}), 10)
        answer = beats([], [{}] * 3)
        self.assertEqual(len({id(bits) for bits in answer}), 3)

    def test_what_is_changed_behind_the_call_changes_no_answer(self):
        rows = [("in", "a", 0), ("latch", 0)]
        some = [{"a": 1}, {"a": 0}]
        answer = beats(rows, some)
        some[0]["a"] = 0
        some.append({"a": 1})
        rows.append(("fix", 1))
        self.assertEqual(answer, [[1, 0], [0, 1]])
        self.assertEqual(beats(rows, some), [[0, 0, 1], [0, 0, 1], [1, 0, 1]])

    def test_what_is_handed_in_stays(self):
        rows = [("in", "a", 3), ("latch", 0), ("not", 1)]
        some = [{"a": 9, "b": 2}, {"a": -9}]
        rows_before = copy.deepcopy(rows)
        some_before = copy.deepcopy(some)
        beats(rows, some)
        self.assertEqual(rows, rows_before)
        self.assertEqual(some, some_before)

    def test_sixty_thousand_rows_at_forty_beats(self):
        rows = [("in", "a", 0)] + [("latch", wire) for wire in range(59999)]
        answer = beats(rows, [{"a": 1}] * 40)
        for beat, bits in enumerate(answer):
            self.assertTrue(bits == [1] * (beat + 1) + [0] * (59999 - beat))


if __name__ == "__main__":
    unittest.main()
