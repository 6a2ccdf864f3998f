import inspect
import itertools
import unittest

from dotpress import fewer as fewer_module
from dotpress.fewer import fewer
from dotpress.sheet import told
from samples import GATES_OF_TWO, INS, mixed_numbers, mixed_rows, own_wires, plain_depths

# Every number of two bits for two names.
EVERY_WORDS = [{"a": first, "b": second} for first in range(4) for second in range(4)]

MOST_ROWS = 60000


class FewerCase(unittest.TestCase):
    def check_fewer(self, rows, outs, every=EVERY_WORDS):
        rows_before = list(rows)
        outs_before = list(outs)
        answer = fewer(rows, outs)
        self.assertEqual(rows, rows_before)
        self.assertEqual(outs, outs_before)
        self.check_answer(rows, outs, answer, every)
        self.check_answer(answer[0], answer[1], fewer(answer[0], answer[1]), every)
        return answer

    def check_answer(self, rows, outs, answer, every):
        self.assertIs(type(answer), tuple)
        self.assertEqual([type(part) for part in answer], [list, list])
        new_rows, new_outs = answer
        self.assertEqual(len(new_outs), len(outs))
        self.check_rows(new_rows)
        self.check_forms(new_rows)
        self.check_no_row_is_left_over(new_rows, new_outs)
        self.check_told(rows, outs, new_rows, new_outs, every)
        self.check_not_more(rows, outs, new_rows, new_outs)

    def check_rows(self, rows):
        for wire, row in enumerate(rows):
            self.assertIs(type(row), tuple)
            self.assertIn(row[0], ("fix", "in", "not", "and", "or", "xor"))
            self.assertEqual(len(row), 3 if row[0] in ("in",) + GATES_OF_TWO else 2)
            for own in own_wires(row):
                self.assertIs(type(own), int)
                self.assertTrue(0 <= own < wire)

    def check_forms(self, rows):
        kinds = [row[0] for row in rows]
        for row in rows:
            own = [kinds[wire] for wire in own_wires(row)]
            self.assertNotIn("fix", own)
            if row[0] == "not":
                self.assertNotEqual(own, ["not"])
            if row[0] in GATES_OF_TWO:
                self.assertNotEqual(row[1], row[2])
        alike = [(row[0],) + tuple(sorted(row[1:])) if row[0] in GATES_OF_TWO else row for row in rows]
        self.assertEqual(len(set(alike)), len(rows))
        for bit in (0, 1):
            self.assertLessEqual(rows.count(("fix", bit)), 1)

    def check_no_row_is_left_over(self, rows, outs):
        used = set(outs)
        for row in rows:
            used.update(own_wires(row))
        self.assertTrue(used == set(range(len(rows))))

    def check_told(self, rows, outs, new_rows, new_outs, every):
        for words in every:
            bits = told(rows, words)
            new_bits = told(new_rows, words)
            self.assertTrue([bits[out] for out in outs] == [new_bits[out] for out in new_outs])

    def check_not_more(self, rows, outs, new_rows, new_outs):
        self.assertTrue({row for row in new_rows if row[0] == "in"} <= set(rows))
        self.assertLessEqual(len(new_rows), len(rows))
        deep = plain_depths(rows)
        new_deep = plain_depths(new_rows)
        for out, new_out in zip(outs, new_outs):
            self.assertLessEqual(new_deep[new_out], deep[out])


class InterfaceTest(unittest.TestCase):
    def test_arguments(self):
        self.assertEqual(list(inspect.signature(fewer_module.fewer).parameters), ["rows", "outs"])


class FewerTest(FewerCase):
    def test_no_rows_and_no_outs(self):
        self.assertEqual(self.check_fewer([], []), ([], []))

    def test_no_outs(self):
        self.assertEqual(self.check_fewer(INS + [("and", 0, 1), ("fix", 1)], []), ([], []))

    def test_rows_that_are_as_wanted_stay_as_many(self):
        rows = INS + [("and", 0, 2), ("xor", 4, 1), ("not", 5), ("or", 6, 3)]
        new_rows, new_outs = self.check_fewer(rows, [7, 5])
        self.assertEqual(len(new_rows), 8)
        self.assertEqual(len(set(new_outs)), 2)

    def test_outs_that_are_fix_rows(self):
        self.assertEqual(self.check_fewer([("fix", 0)], [0]), ([("fix", 0)], [0]))
        self.assertEqual(self.check_fewer([("fix", 1)], [0]), ([("fix", 1)], [0]))
        new_rows, new_outs = self.check_fewer([("fix", 1), ("fix", 0), ("fix", 1), ("fix", 0)], [3, 2, 1, 0])
        self.assertEqual(sorted(new_rows), [("fix", 0), ("fix", 1)])
        self.assertEqual([new_rows[out] for out in new_outs], [("fix", 0), ("fix", 1)] * 2)

    def test_outs_that_are_in_rows(self):
        new_rows, new_outs = self.check_fewer(INS + INS, [0, 4, 3, 7])
        self.assertEqual(sorted(new_rows), [("in", "a", 0), ("in", "b", 1)])
        self.assertEqual([new_rows[out] for out in new_outs], [("in", "a", 0)] * 2 + [("in", "b", 1)] * 2)

    def test_in_rows_of_other_bits_and_names_stay_apart(self):
        rows = [("in", "a", 0), ("in", "b", 0), ("in", "a", 1), ("in", "b", 1), ("in", "ab", 0), ("in", "a", 63)]
        every = [dict(words, ab=number) for words in EVERY_WORDS for number in (0, 1)]
        every.append({"a": -1, "b": 0, "ab": 0})
        new_rows, new_outs = self.check_fewer(rows, [5, 4, 3, 2, 1, 0], every)
        self.assertEqual([new_rows[out] for out in new_outs], rows[::-1])

    def test_an_out_twice(self):
        new_rows, new_outs = self.check_fewer(INS + [("xor", 0, 2)], [4, 4, 0, 4, 0])
        self.assertEqual(len(new_rows), 3)
        self.assertEqual(new_outs[0], new_outs[1])
        self.assertEqual(new_outs[2], new_outs[4])

    def test_fix_wires_on_each_side_of_each_gate(self):
        for kind, bit in itertools.product(GATES_OF_TWO, (0, 1)):
            rows = [("in", "a", 0), ("fix", bit), (kind, 0, 1), (kind, 1, 0), (kind, 1, 1)]
            with self.subTest(kind=kind, bit=bit):
                for outs in ([2], [3], [4], [2, 3, 4]):
                    self.check_fewer(rows, outs)

    def test_known_answers_with_fix_wires(self):
        cases = [
            ("and", 0, ("fix", 0)),
            ("and", 1, ("in", "a", 0)),
            ("or", 0, ("in", "a", 0)),
            ("or", 1, ("fix", 1)),
            ("xor", 0, ("in", "a", 0)),
            ("xor", 1, ("not", 0)),
        ]
        for kind, bit, wanted in cases:
            with self.subTest(kind=kind, bit=bit):
                new_rows, new_outs = self.check_fewer([("fix", bit), ("in", "a", 0), (kind, 0, 1)], [2])
                self.assertEqual(new_rows[new_outs[0]], wanted)

    def test_two_fix_wires(self):
        for kind, first, second in itertools.product(GATES_OF_TWO, (0, 1), (0, 1)):
            with self.subTest(kind=kind, first=first, second=second):
                new_rows, new_outs = self.check_fewer([("fix", first), ("fix", second), (kind, 0, 1)], [2])
                self.assertEqual(len(new_rows), 1)
                self.assertEqual(new_rows[0][0], "fix")

    def test_a_not_of_a_fix_wire(self):
        for bit in (0, 1):
            with self.subTest(bit=bit):
                self.assertEqual(self.check_fewer([("fix", bit), ("not", 0)], [1]), ([("fix", 1 - bit)], [0]))
                self.check_fewer([("fix", bit), ("not", 0), ("not", 1)], [0, 1, 2])

    def test_a_fix_wire_that_comes_of_gates(self):
        rows = [("in", "a", 0), ("xor", 0, 0), ("not", 1), ("in", "b", 0), ("and", 2, 3), ("xor", 4, 2), ("or", 5, 1)]
        for outs in ([6], [5, 4], [1, 2], list(range(7))):
            with self.subTest(outs=outs):
                self.check_fewer(rows, outs)

    def test_the_same_wire_twice(self):
        for kind in GATES_OF_TWO:
            with self.subTest(kind=kind):
                self.check_fewer([("in", "a", 0), (kind, 0, 0)], [1])
                self.check_fewer([("in", "a", 0), (kind, 0, 0), (kind, 1, 0), ("not", 2)], [3, 2, 1])
                # The two wires are the same one only when the rows alike are seen.
                self.check_fewer([("in", "a", 0), ("in", "a", 0), (kind, 0, 1)], [2])
                self.check_fewer([("in", "a", 0), ("not", 0), ("not", 1), (kind, 2, 0)], [3])

    def test_a_not_of_a_not(self):
        rows = [("in", "a", 0)] + [("not", wire) for wire in range(5)]
        self.assertEqual(self.check_fewer(rows, [4]), ([("in", "a", 0)], [0]))
        self.assertEqual(self.check_fewer(rows, [5]), ([("in", "a", 0), ("not", 0)], [1]))
        self.check_fewer(rows, [0, 1, 2, 3, 4, 5])

    def test_a_not_of_a_not_that_comes_of_xor_and_fix(self):
        rows = [("in", "a", 0), ("fix", 1), ("xor", 0, 1), ("not", 2), ("xor", 1, 3), ("xor", 4, 1)]
        for outs in ([5], [4], [3], [2], [2, 3, 4, 5]):
            with self.subTest(outs=outs):
                self.check_fewer(rows, outs)

    def test_rows_alike(self):
        for kind in GATES_OF_TWO:
            rows = INS + [(kind, 0, 2), (kind, 0, 2), ("not", 4), ("not", 5), (kind, 6, 1), (kind, 7, 1)]
            with self.subTest(kind=kind):
                new_rows, new_outs = self.check_fewer(rows, [8, 9])
                self.assertEqual(new_outs[0], new_outs[1])
                self.assertEqual(len(new_rows), 6)

    def test_rows_alike_but_for_the_order_of_their_wires(self):
        for kind in GATES_OF_TWO:
            rows = INS + [(kind, 0, 2), (kind, 2, 0), (kind, 4, 1), (kind, 1, 5)]
            with self.subTest(kind=kind):
                new_rows, new_outs = self.check_fewer(rows, [4, 5, 6, 7])
                self.assertEqual(new_outs[0], new_outs[1])
                self.assertEqual(new_outs[2], new_outs[3])
                self.assertEqual(len(new_rows), 5)

    def test_gates_of_other_kinds_by_the_same_wires_stay_apart(self):
        rows = INS + [("and", 0, 2), ("or", 0, 2), ("xor", 0, 2), ("not", 0)]
        new_rows, new_outs = self.check_fewer(rows, [4, 5, 6, 7])
        self.assertEqual(len(set(new_outs)), 4)

    def test_rows_that_no_out_needs(self):
        rows = INS + [("and", 0, 1), ("or", 2, 3), ("xor", 4, 5), ("not", 4), ("fix", 0), ("fix", 1)]
        new_rows, new_outs = self.check_fewer(rows, [7])
        self.assertEqual(sorted(row[0] for row in new_rows), ["and", "in", "in", "not"])
        # By the fix row the and is needed no more, nor what it goes by.
        rows = INS + [("and", 0, 1), ("fix", 0), ("and", 4, 5), ("or", 6, 2)]
        self.assertEqual(self.check_fewer(rows, [7]), ([("in", "b", 0)], [0]))

    def test_every_two_gates_behind_fix_and_in_rows(self):
        begin = [("fix", 0), ("fix", 1), ("in", "a", 0), ("in", "b", 0)]
        every = [{"a": first, "b": second} for first in (0, 1) for second in (0, 1)]
        for row in self.every_gate(4):
            for other in self.every_gate(5):
                rows = begin + [row, other]
                answer = fewer(rows, [5, 4])
                self.check_answer(rows, [5, 4], answer, every)

    def every_gate(self, many):
        twos = [(kind, first, second) for kind in GATES_OF_TWO for first in range(many) for second in range(many)]
        return [("not", wire) for wire in range(many)] + twos

    def test_many_mixed_rows(self):
        for seed in range(300):
            numbers = mixed_numbers(seed)
            rows = mixed_rows(numbers, 1 + seed % 40)
            outs = [next(numbers) % len(rows) for turn in range(seed % 6)]
            with self.subTest(rows=rows, outs=outs):
                self.check_fewer(rows, outs)

    def test_many_mixed_rows_that_are_all_outs(self):
        for seed in range(1000, 1060):
            rows = mixed_rows(mixed_numbers(seed), 30)
            with self.subTest(rows=rows):
                self.check_fewer(rows, list(range(30)))

    def test_told_lists_are_the_askers_own(self):
        rows = INS + [("and", 0, 2)]
        outs = [4, 0]
        wanted_rows, wanted_outs = fewer(rows, outs)
        new_rows, new_outs = fewer(rows, outs)
        new_rows.append(("fix", 1))
        new_rows[0] = ("fix", 0)
        new_outs.clear()
        self.assertEqual((rows, outs), (INS + [("and", 0, 2)], [4, 0]))
        self.assertEqual(fewer(rows, outs), (wanted_rows, wanted_outs))

    def test_told_lists_are_new_where_nothing_is_to_be_done(self):
        rows = [("in", "a", 0), ("not", 0)]
        outs = [1]
        new_rows, new_outs = fewer(rows, outs)
        new_rows.clear()
        new_outs.clear()
        self.assertEqual((rows, outs), ([("in", "a", 0), ("not", 0)], [1]))
        rows = []
        outs = []
        new_rows, new_outs = fewer(rows, outs)
        new_rows.append(("fix", 1))
        new_outs.append(0)
        self.assertEqual((rows, outs), ([], []))
        self.assertEqual(fewer(rows, outs), ([], []))

    def test_what_is_changed_behind_the_call_changes_no_answer(self):
        rows = [("in", "a", 0), ("not", 0)]
        outs = [1]
        answer = fewer(rows, outs)
        rows[1] = ("fix", 1)
        outs.append(0)
        self.assertEqual(answer, ([("in", "a", 0), ("not", 0)], [1]))

    def test_long_lists_where_each_row_goes_by_the_one_ahead(self):
        few = [{"a": first, "b": second} for first in (0, 1) for second in (0, 1)]
        nots = [("in", "a", 0)] + [("not", wire) for wire in range(MOST_ROWS - 1)]
        new_rows, new_outs = fewer(nots, [MOST_ROWS - 1])
        self.assertTrue((new_rows, new_outs) == ([("in", "a", 0), ("not", 0)], [1]))
        rows = [("in", "a", 0), ("in", "b", 0)]
        rows.extend([(GATES_OF_TWO[wire % 3], wire - 1, wire - 2) for wire in range(2, MOST_ROWS)])
        answer = fewer(rows, [MOST_ROWS - 1, 30000])
        self.check_answer(rows, [MOST_ROWS - 1, 30000], answer, few)


if __name__ == "__main__":
    unittest.main()
