import inspect
import unittest

from dotpress import depth
from dotpress.depth import depths, longest_way

MOST_ROWS = 60000

MIXED_ROWS = [
    ("in", "a", 0),
    ("in", "b", 63),
    ("fix", 1),
    ("not", 0),
    ("and", 3, 1),
    ("or", 2, 4),
    ("xor", 5, 3),
    ("latch", 6),
    ("not", 7),
    ("and", 8, 6),
    ("fix", 0),
    ("xor", 10, 10),
    ("latch", 0),
    ("or", 9, 9),
]

MIXED_DEPTHS = [0, 0, 0, 1, 2, 3, 4, 0, 1, 5, 0, 1, 0, 6]


def chain_of_nots(many):
    return [("in", "a", 0)] + [("not", wire) for wire in range(many - 1)]


def chain_of_twos(many):
    rows = [("in", "a", 0), ("fix", 1)]
    for wire in range(2, many):
        kind = ("and", "or", "xor")[wire % 3]
        rows.append((kind, wire - 1, wire - 2) if wire % 2 else (kind, wire - 2, wire - 1))
    return rows


class InterfaceTest(unittest.TestCase):
    def test_arguments(self):
        self.assertEqual(list(inspect.signature(depth.depths).parameters), ["rows"])
        self.assertEqual(list(inspect.signature(depth.longest_way).parameters), ["rows", "wire"])


class DepthsTest(unittest.TestCase):
    def check_depths(self, rows, wanted):
        answer = depths(rows)
        self.assertIs(type(answer), list)
        self.assertEqual(answer, wanted)
        for deep in answer:
            self.assertIs(type(deep), int)

    def test_no_rows(self):
        self.check_depths([], [])

    def test_rows_that_are_no_gates(self):
        self.check_depths([("fix", 0)], [0])
        self.check_depths([("fix", 1)], [0])
        self.check_depths([("in", "a", 0)], [0])
        self.check_depths([("in", "zzzzzz", 63)], [0])
        self.check_depths([("fix", 1), ("latch", 0)], [0, 0])

    def test_each_kind_of_gate(self):
        self.check_depths([("fix", 1), ("not", 0), ("not", 1)], [0, 1, 2])
        for kind in ("and", "or", "xor"):
            with self.subTest(kind=kind):
                self.check_depths([("fix", 1), ("in", "a", 0), (kind, 0, 1)], [0, 0, 1])
                self.check_depths([("fix", 1), (kind, 0, 0), (kind, 1, 1)], [0, 1, 2])

    def test_the_deeper_wire_counts_on_either_side(self):
        for kind in ("and", "or", "xor"):
            rows = [("in", "a", 0), ("not", 0), ("not", 1), (kind, 0, 2), (kind, 2, 0), (kind, 2, 1), (kind, 1, 2)]
            with self.subTest(kind=kind):
                self.check_depths(rows, [0, 1, 2, 3, 3, 3, 3])

    def test_a_latch_of_a_deep_wire_begins_anew(self):
        rows = [("in", "a", 0), ("not", 0), ("not", 1), ("latch", 2), ("latch", 3), ("not", 4), ("and", 2, 5)]
        self.check_depths(rows, [0, 1, 2, 0, 0, 1, 3])

    def test_mixed_rows(self):
        self.check_depths(MIXED_ROWS, MIXED_DEPTHS)

    def test_long_lists_where_each_row_goes_by_the_one_ahead(self):
        # Not by assertEqual: to write out how two lists so long differ takes it minutes.
        self.assertTrue(depths(chain_of_nots(MOST_ROWS)) == list(range(MOST_ROWS)))
        self.assertTrue(depths(chain_of_twos(MOST_ROWS)) == [0] + list(range(MOST_ROWS - 1)))
        latches = [("in", "a", 0)] + [("latch", wire) for wire in range(MOST_ROWS - 1)]
        self.assertTrue(depths(latches) == [0] * MOST_ROWS)

    def test_rows_stay(self):
        rows = list(MIXED_ROWS)
        depths(rows)
        self.assertEqual(rows, MIXED_ROWS)

    def test_a_changed_answer_changes_no_later_one(self):
        rows = list(MIXED_ROWS)
        answer = depths(rows)
        answer[0] = 9
        answer.append(1)
        self.check_depths(rows, MIXED_DEPTHS)
        depths([]).append(1)
        self.check_depths([], [])

    def test_rows_changed_behind_the_call_change_no_earlier_answer(self):
        rows = [("fix", 1), ("not", 0)]
        answer = depths(rows)
        rows[1] = ("latch", 0)
        rows.append(("not", 1))
        self.assertEqual(answer, [0, 1])
        self.check_depths(rows, [0, 0, 1])


class LongestWayTest(unittest.TestCase):
    def check_way(self, rows, wire, deep):
        way = longest_way(rows, wire)
        self.assertIs(type(way), list)
        self.assertEqual(len(way), deep + 1)
        self.assertEqual(way[-1], wire)
        self.assertIn(rows[way[0]][0], ("fix", "in", "latch"))
        for ahead, one in zip(way, way[1:]):
            row = rows[one]
            self.assertIs(type(one), int)
            self.assertIn(row[0], ("not", "and", "or", "xor"))
            self.assertIn(ahead, row[1:])

    def test_wires_of_depth_nought(self):
        rows = [("fix", 0), ("fix", 1), ("in", "a", 5), ("not", 2), ("latch", 3)]
        for wire in (0, 1, 2, 4):
            with self.subTest(wire=wire):
                self.assertEqual(longest_way(rows, wire), [wire])

    def test_the_only_longest_way(self):
        rows = [("in", "a", 0), ("in", "b", 0), ("not", 1), ("and", 0, 2), ("xor", 3, 1), ("or", 1, 4)]
        self.assertEqual(longest_way(rows, 2), [1, 2])
        self.assertEqual(longest_way(rows, 3), [1, 2, 3])
        self.assertEqual(longest_way(rows, 4), [1, 2, 3, 4])
        self.assertEqual(longest_way(rows, 5), [1, 2, 3, 4, 5])

    def test_a_way_begins_at_a_latch(self):
        rows = [("in", "a", 0), ("not", 0), ("not", 1), ("latch", 2), ("not", 3), ("or", 4, 0)]
        self.assertEqual(longest_way(rows, 5), [3, 4, 5])

    def test_every_wire_of_mixed_rows(self):
        for wire, deep in enumerate(MIXED_DEPTHS):
            with self.subTest(wire=wire):
                self.check_way(MIXED_ROWS, wire, deep)

    def test_the_same_wire_twice(self):
        self.assertEqual(longest_way([("fix", 1), ("xor", 0, 0), ("and", 1, 1)], 2), [0, 1, 2])

    def test_long_lists_where_each_row_goes_by_the_one_ahead(self):
        last = MOST_ROWS - 1
        self.assertTrue(longest_way(chain_of_nots(MOST_ROWS), last) == list(range(MOST_ROWS)))
        rows = chain_of_twos(MOST_ROWS)
        self.check_way(rows, last, last - 1)
        self.check_way(rows, 30000, 29999)
        self.check_way(rows, 1, 0)

    def test_rows_stay(self):
        rows = list(MIXED_ROWS)
        longest_way(rows, 13)
        self.assertEqual(rows, MIXED_ROWS)

    def test_a_changed_answer_changes_no_later_one(self):
        rows = [("in", "a", 0), ("not", 0), ("not", 1)]
        way = longest_way(rows, 2)
        way.reverse()
        way.append(7)
        self.assertEqual(longest_way(rows, 2), [0, 1, 2])
        longest_way(rows, 0).clear()
        self.assertEqual(longest_way(rows, 0), [0])

    def test_rows_changed_behind_the_call_change_no_earlier_answer(self):
        rows = [("in", "a", 0), ("not", 0), ("not", 1)]
        way = longest_way(rows, 2)
        rows[2] = ("latch", 1)
        self.assertEqual(way, [0, 1, 2])
        self.assertEqual(longest_way(rows, 2), [2])


if __name__ == "__main__":
    unittest.main()
