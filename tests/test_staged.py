import copy
import inspect
import unittest

from dotpress import staged as staged_module
from dotpress.fewer import fewer
from dotpress.making import circuit_of
from dotpress.sheet import beats, told
from dotpress.staged import staged
from dotpress.text import read
from samples import INS, mixed_numbers, mixed_rows, own_wires, plain_depths, plain_worth, some_words

SIXTY_FIGURES = 10 ** 60 - 1

MOST_ROWS = 60000


def mixed_dicts(numbers, many):
    return [{"a": next(numbers) % 4, "b": next(numbers) % 4} for beat in range(many)]


class StagedCase(unittest.TestCase):
    def setUp(self):
        self.numbers = mixed_numbers(83)

    # The number of beats, as the point tells it.
    def wanted_beats(self, rows, outs, most):
        deep = plain_depths(rows)
        greatest = max([deep[out] for out in outs], default=0)
        return (greatest - 1) // most if greatest >= 1 else 0

    def check_staged(self, rows, outs, most, some=None):
        handed = copy.deepcopy((rows, outs))
        answer = staged(rows, outs, most)
        self.assertEqual((rows, outs), handed)
        self.assertIs(type(answer), tuple)
        self.assertEqual([type(part) for part in answer], [list, list, int])
        new_rows, new_outs, late = answer
        self.assertEqual(late, self.wanted_beats(rows, outs, most))
        self.assertEqual(len(new_outs), len(outs))
        self.check_rows(rows, new_rows, most)
        self.assertTrue(all(type(out) is int and 0 <= out < len(new_rows) for out in new_outs))
        if some is None:
            some = mixed_dicts(self.numbers, late + 6)
        self.check_beats(rows, outs, answer, some)
        return answer

    def check_rows(self, rows, new_rows, most):
        ins = {row for row in rows if row[0] == "in"}
        for wire, row in enumerate(new_rows):
            self.assertIs(type(row), tuple)
            self.assertIn(row[0], ("fix", "in", "not", "and", "or", "xor", "latch"))
            self.assertEqual(len(row), 2 if row[0] in ("fix", "not", "latch") else 3)
            if row[0] == "in":
                self.assertIn(row, ins)
            elif row[0] == "fix":
                self.assertIs(type(row[1]), int)
                self.assertIn(row[1], (0, 1))
            self.assertTrue(all(type(own) is int and 0 <= own < wire for own in own_wires(row)))
        self.assertLessEqual(max(plain_depths(new_rows), default=0), most)

    def check_beats(self, rows, outs, answer, some):
        new_rows, new_outs, late = answer
        self.assertGreater(len(some), late)
        every = beats(new_rows, some)
        for beat in range(late, len(some)):
            bits = told(rows, some[beat - late])
            self.assertEqual([every[beat][out] for out in new_outs], [bits[out] for out in outs])


class InterfaceTest(unittest.TestCase):
    def test_arguments(self):
        arguments = list(inspect.signature(staged_module.staged).parameters)
        self.assertEqual(arguments, ["rows", "outs", "most"])


class EdgesTest(StagedCase):
    def test_no_outs(self):
        for most in (1, 2, SIXTY_FIGURES):
            self.check_staged([], [], most)
            self.check_staged(INS, [], most)
            self.check_staged(INS + [("and", 0, 1), ("not", 4), ("fix", 1)], [], most)

    def test_outs_of_depth_nought(self):
        rows = INS + [("fix", 0), ("fix", 1), ("xor", 0, 2), ("not", 6), ("not", 7)]
        for most in (1, 2, 3, SIXTY_FIGURES):
            for outs in ([0], [4], [5], [0, 4, 5, 3], [5, 5, 0, 0]):
                answer = self.check_staged(rows, outs, most)
                self.assertEqual(answer[2], 0)

    def test_known_numbers_of_beats(self):
        rows = [("in", "a", 0)] + [("not", wire) for wire in range(12)]
        cases = [
            (0, 1, 0), (1, 1, 0), (2, 1, 1), (3, 1, 2), (12, 1, 11), (1, 2, 0), (2, 2, 0), (3, 2, 1), (4, 2, 1),
            (5, 2, 2), (12, 2, 5), (11, 2, 5), (12, 5, 2), (11, 5, 2), (10, 5, 1), (6, 5, 1), (5, 5, 0), (12, 11, 1),
            (12, 12, 0), (12, 13, 0), (12, SIXTY_FIGURES, 0),
        ]
        for out, most, wanted in cases:
            with self.subTest(out=out, most=most):
                self.assertEqual(self.check_staged(rows, [out], most)[2], wanted)

    def test_a_fix_as_an_out_beside_deep_ones(self):
        rows = [("in", "a", 0), ("fix", 1), ("not", 0), ("xor", 2, 1), ("and", 3, 1), ("fix", 0), ("or", 4, 5)]
        for most in (1, 2, 3, 4):
            self.check_staged(rows, [1, 5, 6, 0, 6, 3], most)
            self.check_staged(rows, [6], most)

    def test_gates_of_fixes_alone(self):
        rows = [("fix", 1), ("not", 0), ("not", 1), ("xor", 2, 0), ("or", 3, 2), ("not", 4)]
        for most in (1, 2, 3, 9):
            for out in range(6):
                self.check_staged(rows, [out, 0, out], most)

    def test_outs_given_twice(self):
        rows = INS + [("and", 0, 2), ("not", 4), ("xor", 5, 1)]
        for most in (1, 2, 3):
            self.check_staged(rows, [6, 6, 0, 0, 6, 4, 4], most)

    def test_a_wire_twice_in_a_gate(self):
        rows = INS + [("xor", 0, 2), ("and", 4, 4), ("or", 5, 5), ("xor", 6, 6), ("or", 7, 4)]
        for most in (1, 2, 3, 4):
            self.check_staged(rows, [8, 7, 6], most)

    def test_wires_that_wait_for_several_stages(self):
        # The early wires are needed by each later gate, and at the end.
        rows = list(INS)
        for turn in range(12):
            rows.append((("xor", "and", "or")[turn % 3], len(rows) - 1, turn % 4))
        for most in (1, 2, 3, 5, 11, 12, 13):
            self.check_staged(rows, [15, 0, 9, 3], most)

    def test_rows_that_no_out_needs(self):
        rows = INS + [("not", 0), ("not", 4), ("not", 5), ("and", 1, 2)]
        for most in (1, 2, 3):
            self.assertEqual(self.check_staged(rows, [7], most)[2], 0)
            self.assertEqual(self.check_staged(rows, [4], most)[2], 0)

    def test_like_rows(self):
        rows = INS + INS + [("and", 0, 2), ("and", 4, 6), ("xor", 8, 9), ("and", 0, 2), ("or", 10, 11)]
        for most in (1, 2, 3):
            self.check_staged(rows, [12, 8, 9, 11], most)


class MixedTest(StagedCase):
    def test_mixed_rows(self):
        for turn in range(120):
            rows = mixed_rows(self.numbers, 1 + turn)
            outs = [next(self.numbers) % len(rows) for out in range(turn % 7)]
            greatest = max(plain_depths(rows))
            for most in sorted({1, 2, 3, max(greatest - 1, 1), max(greatest, 1), greatest + 1, SIXTY_FIGURES}):
                with self.subTest(rows=rows, outs=outs, most=most):
                    self.check_staged(rows, outs, most)

    def test_every_wire_an_out(self):
        for turn in range(20):
            rows = mixed_rows(self.numbers, 30)
            for most in (1, 2, 4):
                self.check_staged(rows, list(range(30)), most)

    def test_many_lists_of_dicts(self):
        rows = mixed_rows(self.numbers, 40)
        outs = [39, 38, 37, 5]
        late = staged(rows, outs, 2)[2]
        for many in range(late + 1, late + 12):
            for turn in range(4):
                self.check_staged(rows, outs, 2, mixed_dicts(self.numbers, many))
        same = [{"a": 3, "b": 1}] * (late + 3)
        self.check_staged(rows, outs, 2, same)

    def test_dicts_with_names_that_are_not_needed(self):
        rows = [("in", "a", 0), ("not", 0), ("not", 1)]
        some = [{"a": beat % 2, "zzzzzz": beat} for beat in range(9)]
        self.check_staged(rows, [2], 1, some)


class CircuitsTest(StagedCase):
    def check_stages_of(self, text, widths, most):
        formula = read(text)
        circuit = circuit_of(formula, widths)
        some = some_words(self.numbers, widths, 30)[:30]
        for rows, outs in [(circuit.rows, circuit.outs), fewer(circuit.rows, circuit.outs)]:
            answer = staged(rows, outs, most)
            late = answer[2]
            fed = some + [some[0]] * late
            self.check_staged(rows, outs, most, fed)
            every = beats(answer[0], fed)
            for beat, words in enumerate(some):
                bits = [every[beat + late][out] for out in answer[1]]
                number = sum(bit << place for place, bit in enumerate(bits))
                self.assertEqual(number, plain_worth(formula, words) % 2 ** len(outs))

    def test_circuits(self):
        for most in (1, 2, 5, 10, 1000):
            self.check_stages_of("a*(b-3)--a", {"a": 4, "b": -4}, most)
            self.check_stages_of("a+b", {"a": 6, "b": -6}, most)

    def test_a_wide_product(self):
        self.check_stages_of("a*b", {"a": 12, "b": -12}, 6)

    def test_numbers_alone(self):
        for most in (1, 3):
            self.check_stages_of("3-8*2", {}, most)


class OwnTest(StagedCase):
    def test_changed_answers_change_nothing(self):
        rows = INS + [("and", 0, 2), ("xor", 4, 1), ("fix", 1), ("or", 5, 6)]
        outs = [7, 0]
        first = staged(rows, outs, 1)
        kept = copy.deepcopy(first)
        first[0].clear()
        first[1].append(0)
        self.assertEqual(staged(rows, outs, 1), kept)
        self.assertEqual((len(rows), outs), (8, [7, 0]))

    def test_what_is_changed_behind_the_call_changes_no_answer(self):
        rows = INS + [("and", 0, 2), ("xor", 4, 1)]
        outs = [5, 0]
        first = staged(rows, outs, 1)
        kept = copy.deepcopy(first)
        rows.clear()
        outs.append(3)
        self.assertEqual(first, kept)

    def test_told_lists_are_not_those_handed_in(self):
        rows = INS + [("and", 0, 2)]
        outs = [4, 0]
        answer = staged(rows, outs, 7)
        self.assertIsNot(answer[0], rows)
        self.assertIsNot(answer[1], outs)


class ManyRowsTest(StagedCase):
    def test_sixty_thousand_rows_within_one_another(self):
        rows = [("in", "a", 0)] + [("not", wire) for wire in range(MOST_ROWS - 1)]
        for most in (1, 7, 20000, MOST_ROWS - 2, MOST_ROWS - 1, SIXTY_FIGURES):
            new_rows, new_outs, late = staged(rows, [MOST_ROWS - 1], most)
            self.assertEqual(late, (MOST_ROWS - 2) // most)
            self.assertTrue(max(plain_depths(new_rows)) <= most)
        # A late enough beat tells 59,999 times not of the bit that was fed ahead.
        new_rows, new_outs, late = staged(rows, [MOST_ROWS - 1], 20000)
        every = beats(new_rows, [{"a": bit} for bit in (1, 0, 0, 1, 1)])
        self.assertEqual([every[beat][new_outs[0]] for beat in range(late, 5)], [0, 1, 1])

    def test_sixty_thousand_rows_beside_one_another(self):
        rows = list(INS)
        while len(rows) < MOST_ROWS:
            rows.append(("xor", len(rows) % 4, len(rows) - 4))
        new_rows, new_outs, late = staged(rows, [MOST_ROWS - 1, MOST_ROWS - 2], 3000)
        self.assertEqual(late, (max(plain_depths(rows)[-2:]) - 1) // 3000)
        self.assertTrue(max(plain_depths(new_rows)) <= 3000)


if __name__ == "__main__":
    unittest.main()
